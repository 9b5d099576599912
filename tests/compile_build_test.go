package tests

import (
	"fmt"
	"math"
	"slices"
	"strconv"
	"strings"
	"testing"

	"loop.example/draft/impl"
)

// opNames are the names of the instructions by their numbers, without their I.
var opNames = []string{
	"", "Line", "At", "Tick", "Const", "Move", "Box", "Get", "Put", "UpGet", "UpPut", "Fn", "Table", "Raw", "RawAll", "Index", "Set",
	"Unary", "Binary", "Jump", "If", "Unless", "List", "Add", "Join", "First", "Pick", "Copy", "Call", "Return", "Throw", "Try",
	"EndTry", "Scope", "Keep", "Defer", "Leave", "For", "ForTest", "ForNext", "Each", "EachNext", "Drop",
}

// assembler reads a listing: an instruction a line or behind a semicolon, its fields as the document writes them. A field is a number, r, r+1 (with ~ when it is taken), a const (#nil, #true, #i5, #f-0, #stext, #b3), or a label.
type assembler struct {
	r      int
	consts []impl.Value
	labels map[string]int
	wrong  string
}

func (a *assembler) fail(wrong string) {
	if a.wrong == "" {
		a.wrong = wrong
	}
}

// lines are the instructions in words; where each label stands is kept.
func (a *assembler) lines(listing string) (out [][]string) {
	a.labels = map[string]int{}
	for _, piece := range strings.FieldsFunc(listing, func(c rune) bool { return c == '\n' || c == ';' }) {
		words := strings.Fields(piece)
		for len(words) > 0 && strings.HasSuffix(words[0], ":") {
			name := strings.TrimSuffix(words[0], ":")
			if _, there := a.labels[name]; there {
				a.fail("two labels " + name)
			}
			a.labels[name] = len(out)
			words = words[1:]
		}
		if len(words) > 0 {
			out = append(out, words)
		}
	}
	return out
}

func (a *assembler) read(listing string) (list []impl.Ins) {
	for _, words := range a.lines(listing) {
		op := slices.Index(opNames, words[0])
		if op < 1 {
			a.fail("no instruction " + words[0])
		}
		var fields []int
		for _, word := range words[1:] {
			fields = append(fields, a.field(word))
		}
		list = append(list, in(op, fields...))
	}
	return list
}

func (a *assembler) field(word string) int {
	if reg, taken := strings.CutPrefix(word, "~"); taken {
		return took(a.field(reg))
	}
	if name, isConst := strings.CutPrefix(word, "#"); isConst {
		return a.place(constNamed(name))
	}
	if n, err := strconv.Atoi(word); err == nil {
		return n
	}
	if word == "r" {
		return a.r
	}
	if n, err := strconv.Atoi(strings.TrimPrefix(word, "r+")); err == nil {
		return a.r + n
	}
	at, there := a.labels[word]
	if !there {
		a.fail("no label " + word)
	}
	return at
}

func (a *assembler) place(x impl.Value) int {
	for i, y := range a.consts {
		if sameConst(x, y) {
			return i
		}
	}
	a.fail(fmt.Sprintf("no const %v", x))
	return -1
}

func sameConst(x, y impl.Value) bool {
	return x.Kind == y.Kind && x.Num == y.Num && x.Str == y.Str && math.Float64bits(x.Flt) == math.Float64bits(y.Flt)
}

func constNamed(name string) impl.Value {
	switch name {
	case "nil":
		return impl.Value{}
	case "true":
		return impl.Value{Kind: impl.KBool, Num: 1}
	case "false":
		return impl.Value{Kind: impl.KBool}
	}
	n, _ := strconv.Atoi(name[1:])
	switch name[0] {
	case 'i':
		return intConst(int64(n))
	case 'b':
		return impl.Value{Kind: impl.KBuiltin, Num: int64(n)}
	case 'f':
		flt, _ := strconv.ParseFloat(name[1:], 64)
		return impl.Value{Kind: impl.KFlt, Flt: flt}
	}
	return impl.Value{Kind: impl.KStr, Str: name[1:]}
}

// written is a proto's instructions as text, one a line.
func written(list []impl.Ins) string {
	var b strings.Builder
	for i, x := range list {
		fmt.Fprintf(&b, "%3d %s", i, opNames[x.Op])
		for _, f := range []int{x.A, x.B, x.C, x.D} {
			if f < 0 {
				fmt.Fprintf(&b, " ~%d", took(f))
			} else {
				fmt.Fprintf(&b, " %d", f)
			}
		}
		b.WriteByte('\n')
	}
	return b.String()
}

func showCompiled(c impl.Compiled) string { return fmt.Sprintf("%#v", c) }

// compile asks twice, writes into all of the first answer ahead of the second, and sees to it that neither the unit nor the second answer changes by that, and that the answer is one that the unit can have.
func compile(t *testing.T, u impl.Unit) impl.Compiled {
	t.Helper()
	before := show(u)
	first := impl.Compile(u)
	shown := showCompiled(first)
	second := impl.Compile(u)
	if got := showCompiled(second); got != shown {
		t.Errorf("two answers: %s, then %s", shown, got)
	}
	if wrong := overwritten(first.Made); wrong != "" {
		t.Error(wrong)
	}
	if show(u) != before {
		t.Error("the unit was changed, or shares memory with the answer")
	}
	if showCompiled(second) != shown {
		t.Error("two answers share memory")
	}
	sound(t, u, second)
	return second
}

// overwritten writes into all lists of a code, and behind them as far as they have room, each with a mark of its own, and tells if one loses its mark by that.
func overwritten(c impl.Code) string {
	for p := range c.Protos {
		x := &c.Protos[p]
		for i := range x.Ups[:cap(x.Ups)] {
			x.Ups[:cap(x.Ups)][i].Index = -1000 - p
		}
		for i := range x.Consts[:cap(x.Consts)] {
			x.Consts[:cap(x.Consts)][i].Ref = -1000 - p
		}
		for i := range x.Ins[:cap(x.Ins)] {
			x.Ins[:cap(x.Ins)][i].Op = -1000 - p
		}
		for i := range x.Named[:cap(x.Named)] {
			x.Named[:cap(x.Named)][i].Reg = -1000 - p
		}
	}
	for p, x := range c.Protos {
		lost := slices.ContainsFunc(x.Ups, func(up impl.Up) bool { return up.Index != -1000-p }) ||
			slices.ContainsFunc(x.Consts, func(v impl.Value) bool { return v.Ref != -1000-p }) ||
			slices.ContainsFunc(x.Ins, func(i impl.Ins) bool { return i.Op != -1000-p }) ||
			slices.ContainsFunc(x.Named, func(n impl.Named) bool { return n.Reg != -1000-p })
		if lost {
			return fmt.Sprint("proto ", p, " shares memory with another")
		}
	}
	return ""
}

// made asks for the code of a unit that has one.
func made(t *testing.T, what string, u impl.Unit) impl.Code {
	t.Helper()
	c := compile(t, u)
	if c.Code != 0 || len(c.Made.Protos) != len(u.Fns) {
		t.Fatalf("%s: Code %d and %d protos for a unit of %d fns with %v", what, c.Code, len(c.Made.Protos), len(u.Fns), impl.CheckUnit(u))
	}
	return c.Made
}

// wantIns asks that fn f becomes this listing, in which r is the register behind its parameters and rest; the return behind the body comes to it.
func wantIns(t *testing.T, what string, u impl.Unit, f int, listing string) impl.Proto {
	t.Helper()
	p := made(t, what, u).Protos[f]
	r := p.Params
	if p.Rest {
		r++
	}
	wantListing(t, what, p, r, fmt.Sprintf("%s\nList %d\nReturn ~%d", listing, r, r))
	return p
}

func wantListing(t *testing.T, what string, p impl.Proto, r int, listing string) {
	t.Helper()
	a := &assembler{r: r, consts: p.Consts}
	want := a.read(listing)
	if a.wrong != "" {
		t.Errorf("%s: the listing: %s", what, a.wrong)
	} else if !slices.Equal(p.Ins, want) {
		t.Errorf("%s: got\n%swant\n%s", what, written(p.Ins), written(want))
	}
}

// becomes asks that these statements become this listing, wherever they stand: first in a text, behind its rest, behind other variables. Their variables are 0 .. vars - 1; fns are those that they make.
func becomes(t *testing.T, what string, vars int, fns []impl.Fn, listing string, kids ...tree) {
	t.Helper()
	ran := 0
	for _, setting := range []struct{ rest, lets int }{{0, 0}, {1, 0}, {0, 3}, {1, 1}} {
		var ahead []int
		var prefix, suffix strings.Builder
		for i := range setting.lets {
			ahead = append(ahead, vars+i)
			fmt.Fprintf(&prefix, "Const %d #nil\n", setting.rest+i)
			fmt.Fprintf(&suffix, "Drop %d\n", setting.rest+i)
		}
		u := text(vars, kids...)
		if setting.lets > 0 {
			u = text(vars+setting.lets, lets(ahead...), block(kids...))
			listing := "Line 7\n" + prefix.String() + listing + "\n" + suffix.String()
			becomesHere(t, what, withFns(u, fns...), setting.rest, setting.lets, listing, &ran)
			continue
		}
		becomesHere(t, what, withFns(u, fns...), setting.rest, 0, listing, &ran)
	}
	if ran == 0 {
		t.Errorf("%s: nowhere a valid unit", what)
	}
}

// becomesHere asks it in one place; a unit that has a NRest and no rest is passed over.
func becomesHere(t *testing.T, what string, u impl.Unit, rest, lets int, listing string, ran *int) {
	t.Helper()
	u.Fns[0].Rest = rest == 1
	if rest == 0 && impl.CheckUnit(u).Code == 8 {
		return
	}
	*ran++
	p := made(t, what, u).Protos[0]
	wantListing(t, fmt.Sprint(what, " (rest ", rest, ", lets ", lets, ")"), p, rest+lets, fmt.Sprintf("%s\nList %d\nReturn ~%d", listing, rest, rest))
}

// doing is the listing of a NDo of a NFn of this fn, at the register r+at.
func doing(fn, at int) string {
	return fmt.Sprintf("Line 7; Fn r+%d %d; List r+%d; Call r+%d ~r+%d ~r+%d; Drop r+%d\n", at, fn, at+1, at, at, at+1, at)
}

// dropping is the listing of drops of so many registers from r+from on.
func dropping(from, many int) string {
	var b strings.Builder
	for i := range many {
		fmt.Fprintf(&b, "Drop r+%d\n", from+i)
	}
	return b.String()
}
