package tests

import (
	"fmt"
	"testing"

	"loop.example/draft/impl"
)

// sharedCase is an instruction whose fields name a register twice, with what is held ahead of it and behind it; nothing behind it stands for code 10.
type sharedCase struct {
	ins    impl.Ins
	ahead  string
	behind string
}

func (c sharedCase) ask(t *testing.T) {
	t.Helper()
	d := duty{ins: c.ins}
	if c.ins.Op == impl.IDefer {
		d.inside = "S"
	}
	if c.ins.Op == impl.IIf || c.ins.Op == impl.IForTest || c.ins.Op == impl.IForNext || c.ins.Op == impl.IEachNext {
		d.jumps = "B"
	}
	s := d.stageOf(c.ins, c.ahead, d.guards()...)
	what := fmt.Sprintf("%+v with %q", c.ins, c.ahead)
	if c.behind == "" {
		wantCode(t, what, s.code, faultOf(10, 1, s.at))
		return
	}
	states := verified(t, what, s.code)[1]
	if len(states) > 0 && brief(states[s.next])[:len(c.behind)] != c.behind {
		t.Errorf("%s: behind it %q, want %q", what, brief(states[s.next]), c.behind)
	}
}

func TestOperandsTakenTwice(t *testing.T) {
	for _, c := range []sharedCase{
		{in(impl.IBinary, 3, 1, took(0), took(0)), "v...", ""},
		{in(impl.IBinary, 0, 1, took(0), took(0)), "v...", ""},
		{in(impl.IIndex, 3, took(0), took(0)), "v...", ""},
		{in(impl.IRaw, 1, took(0), took(0)), "vv..", ""},
		{in(impl.ISet, took(0), took(0), 1), "vv..", ""},
		{in(impl.ISet, took(0), 1, took(0)), "vv..", ""},
		{in(impl.ISet, 1, took(0), took(0)), "vv..", ""},
		{in(impl.ISet, took(0), took(1), took(2)), "vvv.", "...."},
	} {
		c.ask(t)
	}
}

func TestOperandsReadThenTaken(t *testing.T) {
	for _, c := range []sharedCase{
		{in(impl.IBinary, 3, 1, 0, took(0)), "v...", "...v"},
		{in(impl.IBinary, 0, 1, 0, took(0)), "v...", "v..."},
		{in(impl.IIndex, 3, 0, took(0)), "v...", "...v"},
		{in(impl.IRaw, 1, 0, took(0)), "vv..", ".v.."},
		{in(impl.ISet, 0, took(0), 1), "vv..", ".v.."},
		{in(impl.ISet, 0, 1, took(0)), "vv..", ".v.."},
		{in(impl.ISet, 1, 0, took(0)), "vv..", ".v.."},
		{in(impl.ISet, 0, 0, took(0)), "v...", "...."},
		{in(impl.IBinary, 3, 1, 0, 0), "v...", "v..v"},
		{in(impl.ISet, 0, 0, 0), "v...", "v..."},
		{in(impl.IRaw, 0, 0, 0), "v...", "v..."},
		{in(impl.IJoin, 0, 0), "l...", "l..."},
	} {
		c.ask(t)
	}
}

func TestOperandsTakenThenRead(t *testing.T) {
	for _, c := range []sharedCase{
		{in(impl.IBinary, 3, 1, took(0), 0), "v...", ""},
		{in(impl.IBinary, 0, 1, took(0), 0), "v...", ""},
		{in(impl.IIndex, 3, took(0), 0), "v...", ""},
		{in(impl.IRaw, 1, took(0), 0), "vv..", ""},
		{in(impl.ISet, took(0), 0, 1), "vv..", ""},
		{in(impl.ISet, took(0), 1, 0), "vv..", ""},
		{in(impl.ISet, 1, took(0), 0), "vv..", ""},
	} {
		c.ask(t)
	}
}

func TestPlacesReadThenTaken(t *testing.T) {
	for _, c := range []sharedCase{
		{in(impl.IRaw, 0, took(0), 1), "vv..", ""},
		{in(impl.IRaw, 0, 1, took(0)), "vv..", ""},
		{in(impl.IRaw, 0, 0, took(0)), "vv..", ""},
		{in(impl.IRawAll, 0, took(0), 1), "vl..", ""},
		{in(impl.IRawAll, 0, 0, took(1)), "vl..", "v..."},
		{in(impl.IJoin, 0, took(0)), "l...", ""},
		{in(impl.IAdd, 0, took(0)), "l...", ""},
		{in(impl.IAdd, 0, took(0)), "v...", ""},
		{in(impl.IPut, 0, took(0)), "b...", ""},
		{in(impl.IPut, 0, took(0)), "v...", ""},
		{in(impl.IRaw, 0, took(1), took(2)), "vvv.", "v..."},
	} {
		c.ask(t)
	}
}

// What is put in comes last: the register may be one that was read or taken.
func TestPutIntoWhatWasRead(t *testing.T) {
	for _, c := range []sharedCase{
		{in(impl.IMove, 0, took(0)), "v...", "v..."},
		{in(impl.IMove, 0, 0), "v...", "v..."},
		{in(impl.IBox, 0, took(0)), "v...", "b..."},
		{in(impl.IBox, 0, 0), "v...", "b..."},
		{in(impl.IGet, 0, 0), "b...", "v..."},
		{in(impl.IUnary, 0, 19, took(0)), "v...", "v..."},
		{in(impl.IBinary, 0, 1, took(0), took(1)), "vv..", "v..."},
		{in(impl.IBinary, 1, 1, took(0), took(1)), "vv..", ".v.."},
		{in(impl.IIndex, 1, took(0), took(1)), "vv..", ".v.."},
		{in(impl.IFirst, 0, took(0)), "l...", "v..."},
		{in(impl.IFirst, 0, 0), "l...", "v..."},
		{in(impl.IPick, 0, 0, 1), "l...", "v..."},
		{in(impl.ICopy, 0, 0), "l...", "l..."},
		{in(impl.ICall, 0, took(0), took(1)), "vl..", "l..."},
		{in(impl.ICall, 1, took(0), took(1)), "vl..", ".l.."},
		{in(impl.ICall, 0, 0, 1), "vl..", "ll.."},
		{in(impl.IEachNext, 0, 0, 0), "vv..", "lv.."},
		{in(impl.IEachNext, 0, 0, 1), "vv..", "vl.."},
	} {
		c.ask(t)
	}
}

// The places of the loops that lie side by side: each of them must hold what is asked for, up to the last register.
func TestPlacesSideBySide(t *testing.T) {
	for _, c := range []sharedCase{
		{in(impl.IFor, 5), ".....vvv", ".....vvv"},
		{in(impl.IFor, 5), ".....vv.", ""},
		{in(impl.IFor, 5), ".....v.v", ""},
		{in(impl.IFor, 5), "......vv", ""},
		{in(impl.IFor, 1), "lvvvl", "lvvvl"},
		{in(impl.IForTest, 5, 0), ".....vvl", ""},
		{in(impl.IForNext, 5, 0), ".....vbv", ""},
		{in(impl.IEach, 6), "......v.", "......vv"},
		{in(impl.IEach, 6), "......vv", ""},
		{in(impl.IEach, 6), "......vl", ""},
		{in(impl.IEach, 6), "......vb", ""},
		{in(impl.IEach, 6), "......l.", ""},
		{in(impl.IEach, 6), "........", ""},
		{in(impl.IEachNext, 6, 0, 0), "......vv", "l.....vv"},
		{in(impl.IEachNext, 6, 0, 0), "......v.", ""},
		{in(impl.IEachNext, 6, 0, 0), ".......v", ""},
	} {
		c.ask(t)
	}
}

// A register that is neither an operand nor a place keeps what it holds.
func TestOtherRegistersStay(t *testing.T) {
	for _, d := range duties {
		for _, rest := range []string{"vbl.v", "lvvbl", "....."} {
			for bits := range 1 << len(d.reads) {
				fill := d.metBy()[0]
				fill += "..."[len(fill):] + rest
				x, taken := d.taking(bits)
				s := d.stageOf(x, fill, d.guards()...)
				states := verified(t, d.name(bits, fill), s.code)[1]
				if next, _ := d.behind(fill, taken, s); len(states) > 0 && d.goesOn() && brief(states[s.next]) != next {
					t.Errorf("%s: behind it %q, want %q", d.name(bits, fill), brief(states[s.next]), next)
				}
			}
		}
	}
}

func TestBoxesOfFns(t *testing.T) {
	for _, types := range fills(3) {
		for _, ups := range [][]impl.Up{{local(0)}, {local(2), local(1)}, {outer(0), local(1)}, {outer(2)}, {}, {local(0), local(1), local(2)}} {
			maker := proto(3, append(filling(types), in(impl.IFn, 1, 2), in(impl.IThrow, 1))...)
			maker.Ups = []impl.Up{local(0), local(0), local(0)}
			c := code(proto(2, append(filling("b"), in(impl.IFn, 1, 1), in(impl.IThrow, 1))...), maker, ending(ups...))
			boxes := true
			for _, up := range ups {
				boxes = boxes && (!up.Local || types[up.Index] == 'b')
			}
			what := fmt.Sprint(types, " and ", ups)
			if boxes {
				verified(t, what, c)
			} else {
				wantCode(t, what, c, faultOf(10, 1, len(maker.Ins)-2))
			}
		}
	}
}

// What is held at the beginning of a call.
func TestTypesAtTheBeginning(t *testing.T) {
	for params := range 4 {
		for _, rest := range []bool{false, true} {
			for reg := range 5 {
				holds := "."
				if reg < params {
					holds = "v"
				} else if reg == params && rest {
					holds = "l"
				}
				for _, x := range []impl.Ins{in(impl.IThrow, reg), in(impl.IReturn, reg)} {
					p := proto(5, x)
					p.Params, p.Rest = params, rest
					c := making(p)
					if x.Op == impl.IThrow && holds == "v" || x.Op == impl.IReturn && holds == "l" {
						verified(t, fmt.Sprint(params, rest, reg), c)
					} else {
						wantCode(t, fmt.Sprint(params, rest, reg), c, faultOf(10, 1, 0))
					}
				}
			}
		}
	}
}
