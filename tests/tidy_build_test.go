package tests

import (
	"fmt"
	"reflect"
	"slices"
	"strings"
	"testing"

	"loop.example/draft/impl"
)

// tidied asks twice, writes into all of the first answer ahead of the second, and sees to it that neither the code nor the second answer changes by that, and that the answer is one that the code can have.
func tidied(t *testing.T, what string, c impl.Code) impl.Code {
	t.Helper()
	before := showCode(c)
	first := impl.Tidy(c)
	shown := showCode(first)
	second := impl.Tidy(c)
	if got := showCode(second); got != shown {
		t.Errorf("%s: two answers: %s, then %s", what, shown, got)
	}
	if wrong := overwritten(first); wrong != "" {
		t.Errorf("%s: %s", what, wrong)
	}
	if showCode(c) != before {
		t.Errorf("%s: the code was changed, or shares memory with the answer", what)
	}
	if showCode(second) != shown {
		t.Errorf("%s: two answers share memory", what)
	}
	wellTidied(t, what, c, second)
	return second
}

// wellTidied sees to it that what a code was tidied to is what the promise says of all codes.
func wellTidied(t *testing.T, what string, c, tidy impl.Code) {
	t.Helper()
	if fault := impl.CheckCode(c); fault != (impl.CodeFault{}) {
		if len(tidy.Protos) > 0 {
			t.Errorf("%s: a code with the fault %v is tidied to %d protos", what, fault, len(tidy.Protos))
		}
		return
	}
	if fault := impl.CheckCode(tidy); fault != (impl.CodeFault{}) {
		t.Errorf("%s: what is tidied has the fault %v: %s\nof %s", what, fault, showCode(tidy), showCode(c))
		return
	}
	if len(tidy.Protos) != len(c.Protos) {
		t.Errorf("%s: %d protos of %d", what, len(tidy.Protos), len(c.Protos))
		return
	}
	for p := range c.Protos {
		wrong := otherParts(c.Protos[p], tidy.Protos[p])
		if wrong == "" {
			wrong = newTwins(c.Protos[p], tidy.Protos[p]).walk()
		}
		if wrong != "" {
			t.Errorf("%s: proto %d: %s\n%sof\n%s", what, p, wrong, written(tidy.Protos[p].Ins), written(c.Protos[p].Ins))
			return
		}
	}
}

// otherParts tells if something of a proto has changed that has to stay, or if it has become longer.
func otherParts(old, now impl.Proto) string {
	if len(now.Ins) > len(old.Ins) {
		return fmt.Sprintf("%d instructions of %d", len(now.Ins), len(old.Ins))
	}
	if len(now.Named) != len(old.Named) {
		return fmt.Sprintf("%d names of %d", len(now.Named), len(old.Named))
	}
	for i, n := range now.Named {
		if n.Name != old.Named[i].Name || n.Reg != old.Named[i].Reg {
			return fmt.Sprintf("name %d is %v, was %v", i, n, old.Named[i])
		}
	}
	if !slices.EqualFunc(now.Consts, old.Consts, func(x, y impl.Value) bool { return sameConst(x, y) && x.Ref == y.Ref }) {
		return fmt.Sprintf("the consts are %v, were %v", now.Consts, old.Consts)
	}
	if !slices.Equal(now.Ups, old.Ups) {
		return fmt.Sprintf("the ups are %v, were %v", now.Ups, old.Ups)
	}
	for _, p := range []*impl.Proto{&old, &now} {
		p.Ups, p.Consts, p.Ins, p.Named = nil, nil, nil, nil
	}
	if !reflect.DeepEqual(old, now) {
		return fmt.Sprintf("the head is %v, was %v", now, old)
	}
	return ""
}

// twins goes all ways through a proto and through what it was tidied to, side by side: but for jumps the same has to be met, with the same names to be seen.
type twins struct {
	old, now impl.Proto
	met      map[int]int
	work     [][2]int
	wrong    string
}

func newTwins(old, now impl.Proto) *twins { return &twins{old: old, now: now, met: map[int]int{}} }

func (w *twins) fail(wrong ...any) {
	if w.wrong == "" {
		w.wrong = fmt.Sprint(wrong...)
	}
}

func (w *twins) walk() string {
	w.stand(0, 0)
	for len(w.work) > 0 && w.wrong == "" {
		i, j := w.work[0][0], w.work[0][1]
		w.work = w.work[1:]
		x, y := w.old.Ins[i], w.now.Ins[j]
		if untargeted(x) != untargeted(y) {
			w.fail("instruction ", i, " is met as ", j, ", which is another")
			break
		}
		w.sameNames(i, j)
		from, to := followersOf(x, i), followersOf(y, j)
		for n := range from {
			if x.Op == impl.ITry && n == 1 {
				w.stand(from[n], to[n])
			} else {
				w.come(from[n], to[n])
			}
		}
	}
	return w.wrong
}

// untargeted is an instruction without what it names to go on at.
func untargeted(x impl.Ins) impl.Ins {
	for i, f := range partsOf(x) {
		if f.word == "ins" {
			x = withField(x, i, 0)
		}
	}
	return x
}

// stand is for the instructions at which a call can be seen ahead of what they do: even a jump has to be there, and to show the same.
func (w *twins) stand(i, j int) {
	if w.old.Ins[i].Op != w.now.Ins[j].Op {
		w.fail("a call stands at instruction ", i, ", and at ", j, ", which is another")
	}
	w.sameNames(i, j)
	w.come(i, j)
}

// come goes on behind jumps, which nobody sees.
func (w *twins) come(i, j int) {
	i, j = w.landed(w.old, i), w.landed(w.now, j)
	if before, there := w.met[i]; there {
		if before != j {
			w.fail("instruction ", i, " is met as ", before, " and as ", j)
		}
		return
	}
	w.met[i] = j
	w.work = append(w.work, [2]int{i, j})
}

func (w *twins) landed(p impl.Proto, i int) int {
	for range p.Ins {
		if p.Ins[i].Op == impl.IJump {
			i = p.Ins[i].A
		}
	}
	return i
}

func (w *twins) sameNames(i, j int) {
	for n := range w.old.Named {
		if seenIn(w.old.Named[n], i) != seenIn(w.now.Named[n], j) {
			w.fail("name ", n, " is not seen at ", j, " as it was at ", i)
		}
	}
}

func seenIn(n impl.Named, i int) bool { return n.From <= i && i < n.To }

// tidying is a listing that says what becomes of it: a line that goes begins with "-", a target that is followed is written as "first>last".
type tidying struct {
	before, after impl.Proto
	// ahead is how many lines stay ahead of each, and of the end.
	ahead []int
	wrong string
}

func readTidying(listing string) tidying {
	var before, after strings.Builder
	x := tidying{ahead: []int{0}}
	for _, piece := range strings.FieldsFunc(listing, func(c rune) bool { return c == '\n' || c == ';' }) {
		words := strings.Fields(piece)
		goes := len(words) > 0 && words[0] == "-"
		if goes {
			words = words[1:]
		}
		isLine := false
		for _, word := range words {
			first, last, both := strings.Cut(word, ">")
			if !both {
				last = first
			}
			label := strings.HasSuffix(word, ":")
			isLine = isLine || !label
			before.WriteString(first + " ")
			if label || !goes {
				after.WriteString(last + " ")
			}
		}
		before.WriteString("\n")
		after.WriteString("\n")
		stays := 0
		if !goes {
			stays = 1
		}
		if isLine {
			x.ahead = append(x.ahead, x.ahead[len(x.ahead)-1]+stays)
		}
	}
	a, b := &assembler{}, &assembler{}
	x.before, x.after = proto(8, a.read(before.String())...), proto(8, b.read(after.String())...)
	x.wrong = a.wrong + b.wrong
	x.nameAll()
	return x
}

// nameAll gives both protos names from and to the end and each instruction, or as many as there is room for.
func (x *tidying) nameAll() {
	end := len(x.before.Ins)
	step := 1 + end/100
	for i := end; i >= 0; i -= step {
		for _, n := range []impl.Named{{Name: "from", Reg: 7, From: i, To: end}, {Name: "to", From: 0, To: i}, {Name: "at", Reg: 1, From: i, To: min(i+step, end)}, {Name: "never", From: i, To: i}} {
			x.before.Named = append(x.before.Named, n)
			n.From, n.To = x.ahead[n.From], x.ahead[n.To]
			x.after.Named = append(x.after.Named, n)
		}
	}
}

func wantProto(t *testing.T, what string, got, want impl.Proto) {
	t.Helper()
	switch {
	case !slices.Equal(got.Ins, want.Ins):
		t.Errorf("%s: got\n%swant\n%s", what, written(got.Ins), written(want.Ins))
	case !slices.Equal(got.Named, want.Named):
		t.Errorf("%s: got\n%v\nwant\n%v", what, got.Named, want.Named)
	case otherParts(want, got) != "":
		t.Errorf("%s: %s", what, otherParts(want, got))
	}
}

// fnsMadeIn is how many fns a proto makes; they have to be 1, 2, ..
func fnsMadeIn(p impl.Proto) (many int) {
	for _, x := range p.Ins {
		if x.Op == impl.IFn {
			many++
		}
	}
	return many
}

// tidiesTo asks that a listing becomes what it says, alone and, when it makes no fns itself, behind and between others.
func tidiesTo(t *testing.T, what string, listing string) {
	t.Helper()
	x := readTidying(listing)
	if x.wrong != "" {
		t.Fatalf("%s: the listing: %s", what, x.wrong)
	}
	fns := fnsMadeIn(x.before)
	c := code(append([]impl.Proto{x.before}, slices.Repeat([]impl.Proto{ending()}, fns)...)...)
	if fault := impl.CheckCode(c); fault != (impl.CodeFault{}) {
		t.Fatalf("%s: the listing has the fault %v\n%s", what, fault, written(x.before.Ins))
	}
	got := tidied(t, what, c)
	if len(got.Protos) != 1+fns {
		t.Fatalf("%s: %d protos", what, len(got.Protos))
	}
	wantProto(t, what, got.Protos[0], x.after)
	for _, p := range got.Protos[1:] {
		wantProto(t, what+", a fn", p, ending())
	}
	if fns > 0 {
		return
	}
	got = tidied(t, what+", behind another", making(x.before, ending(), x.before))
	if len(got.Protos) != 4 {
		t.Fatalf("%s: %d protos", what, len(got.Protos))
	}
	wantProto(t, what+", behind another", got.Protos[1], x.after)
	wantProto(t, what+", ahead of it", got.Protos[2], ending())
	wantProto(t, what+", a second time", got.Protos[3], x.after)
}
