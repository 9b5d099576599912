package tests

import (
	"fmt"
	"reflect"
	"strings"
	"testing"

	"loop.example/draft/impl"
)

// in is an instruction; the fields that are not given are 0.
func in(op int, fields ...int) impl.Ins {
	var all [4]int
	copy(all[:], fields)
	return impl.Ins{Op: op, A: all[0], B: all[1], C: all[2], D: all[3]}
}

// took is the operand that takes this register.
func took(reg int) int { return -1 - reg }

func intConst(n int64) impl.Value { return impl.Value{Kind: impl.KInt, Num: n} }

// proto has so many registers and two consts.
func proto(regs int, list ...impl.Ins) impl.Proto {
	return impl.Proto{Name: "proto", Line: 3, Regs: regs, Consts: []impl.Value{intConst(1), intConst(2)}, Ins: list}
}

func code(protos ...impl.Proto) impl.Code { return impl.Code{Protos: protos} }

// alone is a code of one proto with eight registers.
func alone(list ...impl.Ins) impl.Code { return code(proto(8, list...)) }

// making is a code whose proto 0 makes fns of all these.
func making(others ...impl.Proto) impl.Code {
	first := proto(8)
	for i := range others {
		first.Ins = append(first.Ins, in(impl.IFn, 0, i+1))
	}
	first.Ins = append(first.Ins, in(impl.IThrow, took(0)))
	return code(append([]impl.Proto{first}, others...)...)
}

// ending is the shortest proto with as few registers as can be.
func ending(ups ...impl.Up) impl.Proto {
	return impl.Proto{Name: "ending", Regs: 1, Ups: ups, Ins: []impl.Ins{in(impl.IList), in(impl.IReturn, took(0))}}
}

func showCode(c impl.Code) string { return fmt.Sprintf("%#v", c) }

// asked is what the program answers of a code. All is asked twice, and the code has to be the same behind it. What it is tidied to has to be what the promise says of every code.
func asked(t *testing.T, c impl.Code) (shape, full impl.CodeFault, states [][]impl.State) {
	t.Helper()
	before := showCode(c)
	shape, full = impl.CheckShape(c), impl.CheckCode(c)
	if s, f := impl.CheckShape(c), impl.CheckCode(c); s != shape || f != full {
		t.Errorf("two answers: %v and %v, then %v and %v", shape, full, s, f)
	}
	for p := range c.Protos {
		states = append(states, impl.States(c, p))
		if again := impl.States(c, p); !reflect.DeepEqual(again, states[p]) {
			t.Errorf("two answers: %v, then %v", states[p], again)
		}
	}
	for _, p := range []int{-1, len(c.Protos)} {
		if got := impl.States(c, p); len(got) != 0 {
			t.Errorf("states of proto %d, which there is not: %v", p, got)
		}
	}
	wellTidied(t, "tidied", c, impl.Tidy(c))
	if showCode(c) != before {
		t.Errorf("the code was changed")
	}
	return shape, full, states
}

func noStates(t *testing.T, what string, states [][]impl.State) {
	t.Helper()
	for p, s := range states {
		if len(s) != 0 {
			t.Errorf("%s: %d states of proto %d with a fault", what, len(s), p)
		}
	}
}

// wantShape asks for a fault of the shape.
func wantShape(t *testing.T, what string, c impl.Code, fault impl.CodeFault) {
	t.Helper()
	shape, full, states := asked(t, c)
	if shape != fault || full != fault {
		t.Errorf("%s: got %v and %v, want %v of both", what, shape, full, fault)
	}
	noStates(t, what, states)
}

// wantCode asks for a fault that only the verifier finds.
func wantCode(t *testing.T, what string, c impl.Code, fault impl.CodeFault) {
	t.Helper()
	shape, full, states := asked(t, c)
	if shape != (impl.CodeFault{}) || full != fault {
		t.Errorf("%s: got %v and %v, want none and %v", what, shape, full, fault)
	}
	noStates(t, what, states)
}

// rightShape asks for no fault of the shape; what the verifier says is left open.
func rightShape(t *testing.T, what string, c impl.Code) {
	t.Helper()
	if shape, _, _ := asked(t, c); shape != (impl.CodeFault{}) {
		t.Errorf("%s: got %v, want a right shape", what, shape)
	}
}

// verified asks for no fault, and for states of which nothing but the form is known.
func verified(t *testing.T, what string, c impl.Code) [][]impl.State {
	t.Helper()
	shape, full, states := asked(t, c)
	if shape != (impl.CodeFault{}) || full != (impl.CodeFault{}) {
		t.Errorf("%s: got %v and %v, want a verified code", what, shape, full)
		return states
	}
	for p, list := range states {
		if len(list) != len(c.Protos[p].Ins) {
			t.Errorf("%s: proto %d has %d states for %d instructions", what, p, len(list), len(c.Protos[p].Ins))
		}
		for i, s := range list {
			if s.Reached && len(s.Types) != c.Protos[p].Regs || !s.Reached && len(s.Types)+len(s.Guards) > 0 {
				t.Errorf("%s: proto %d, instruction %d: %v", what, p, i, s)
			}
		}
	}
	return states
}

// brief writes a state as a letter for each register (none, value, box, list: ".vbl") and the guards (T keep@handler, S keep); "-" when it was not reached.
func brief(s impl.State) string {
	if !s.Reached {
		return "-"
	}
	var b strings.Builder
	for _, kind := range s.Types {
		b.WriteByte(".vbl"[kind])
	}
	for _, g := range s.Guards {
		if g.Try {
			fmt.Fprintf(&b, " T%d@%d", g.Keep, g.Handler)
		} else {
			fmt.Fprintf(&b, " S%d", g.Keep)
		}
		if !g.Try && g.Handler != 0 {
			b.WriteString("with a handler")
		}
	}
	return b.String()
}

// line is an instruction and the state that has to stand ahead of it.
type line struct {
	state string
	ins   impl.Ins
}

func insOf(lines []line) []impl.Ins {
	var list []impl.Ins
	for _, l := range lines {
		list = append(list, l.ins)
	}
	return list
}

func statesOf(lines []line) []string {
	var list []string
	for _, l := range lines {
		list = append(list, l.state)
	}
	return list
}

func wantStates(t *testing.T, what string, got []impl.State, want []string) {
	t.Helper()
	if len(got) != len(want) {
		t.Errorf("%s: %d states, want %d", what, len(got), len(want))
		return
	}
	for i, s := range got {
		if brief(s) != want[i] {
			t.Errorf("%s: ahead of instruction %d: got %q, want %q", what, i, brief(s), want[i])
		}
	}
}

// verifiedAs asks for a verified code of one proto with these states; a line's state has a letter for each register.
func verifiedAs(t *testing.T, what string, lines ...line) {
	t.Helper()
	regs := len(strings.Fields(lines[0].state + " ")[0])
	states := verified(t, what, code(proto(regs, insOf(lines)...)))
	wantStates(t, what, states[0], statesOf(lines))
}

// filling is the instructions that give the registers these types, one letter each, from nothing; "b" and "v" need const 0.
func filling(types string) []impl.Ins {
	var list []impl.Ins
	for reg, kind := range types {
		switch kind {
		case 'v':
			list = append(list, in(impl.IConst, reg, 0))
		case 'b':
			list = append(list, in(impl.IConst, reg, 0), in(impl.IBox, reg, took(reg)))
		case 'l':
			list = append(list, in(impl.IList, reg))
		}
	}
	return list
}

const (
	opCount  = impl.ILast
	guardsUp = impl.MaxGuards
)
