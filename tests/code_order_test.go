package tests

import (
	"fmt"
	"testing"

	"loop.example/draft/impl"
)

const (
	faultyProtos = 4
	faultyPlaces = 4
)

// chained is a code of faultyProtos protos, each made by the one ahead of it, with room for a fault of the shape at each of faultyPlaces places.
func chained() impl.Code {
	c := impl.Code{}
	for p := range faultyProtos {
		x := proto(4, tick, tick, tick, tick, zero, throw)
		x.Consts = make([]impl.Value, faultyPlaces)
		for i := range faultyPlaces {
			x.Named = append(x.Named, impl.Named{Name: fmt.Sprint("n", i), Reg: i, From: i, To: i + 1})
		}
		if p+1 < faultyProtos {
			x.Ins[4] = in(impl.IFn, 0, p+1)
		}
		c.Protos = append(c.Protos, x)
	}
	return c
}

// breakShape puts a fault of this code in, and answers where it is told.
func breakShape(c impl.Code, fault, p, i int) impl.CodeFault {
	x := &c.Protos[p]
	switch fault {
	case 2:
		x.Line = -1
		return faultOf(2, p, 0)
	case 3:
		x.Consts[i] = impl.Value{Kind: impl.KTask}
	case 4:
		x.Named[i].Reg = 4
	case 5:
		x.Ins[i] = in(impl.ILine, 0)
	case 6:
		x.Ins[i] = in(impl.IFn, 0, p)
	}
	return faultOf(fault, p, i)
}

func firstCodeFault(all []impl.CodeFault) impl.CodeFault {
	best := all[0]
	for _, f := range all {
		if f.Code < best.Code || f.Code == best.Code && (f.Proto < best.Proto || f.Proto == best.Proto && f.At < best.At) {
			best = f
		}
	}
	return best
}

func TestOrderOfTwoShapeFaults(t *testing.T) {
	verified(t, "no fault", chained())
	const places = faultyProtos * faultyPlaces
	for a := range places {
		for b := range places {
			for i := 2; i <= 6; i++ {
				for j := 2; j <= 6; j++ {
					if a == b && i >= 5 && j >= 5 {
						continue
					}
					c := chained()
					one := breakShape(c, i, a/faultyPlaces, a%faultyPlaces)
					two := breakShape(c, j, b/faultyPlaces, b%faultyPlaces)
					want := firstCodeFault([]impl.CodeFault{one, two})
					if got := impl.CheckShape(c); got != want || impl.CheckCode(c) != want {
						t.Errorf("%v and %v: got %v, want %v", one, two, got, want)
					}
				}
			}
		}
	}
}

func TestOrderOfManyShapeFaults(t *testing.T) {
	d := dice(2)
	for range 3000 {
		c := chained()
		var all []impl.CodeFault
		lowest := 2 + d.below(5)
		used := [faultyProtos * faultyPlaces]bool{}
		for range 1 + d.below(6) {
			fault, place := lowest+d.below(7-lowest), d.below(len(used))
			if fault >= 5 && used[place] {
				continue
			}
			used[place] = used[place] || fault >= 5
			all = append(all, breakShape(c, fault, place/faultyPlaces, place%faultyPlaces))
		}
		if d.below(2) == 0 {
			c.Protos = append(c.Protos, ending(), ending())
			all = append(all, faultOf(7, faultyProtos, 0))
		}
		want := firstCodeFault(all)
		if got := impl.CheckShape(c); got != want || impl.CheckCode(c) != want {
			t.Errorf("%v: got %v, want %v", all, got, want)
		}
		for len(c.Protos) <= impl.MaxProtos {
			c.Protos = append(c.Protos, ending())
		}
		if got := impl.CheckShape(c); got != faultOf(1, 0, 0) {
			t.Errorf("too many protos and %v: got %v", all, got)
		}
	}
}

// A fault of the shape comes ahead of all that the verifier would find, in whatever proto.
func TestShapeAheadOfTheRest(t *testing.T) {
	c := chained()
	c.Protos[0].Ins[0] = in(impl.IThrow, 0)
	wantCode(t, "the verifier's", c, faultOf(10, 0, 0))
	for fault := 2; fault <= 6; fault++ {
		c := chained()
		c.Protos[0].Ins[0] = in(impl.IThrow, 0)
		wantShape(t, fmt.Sprint("the verifier's and ", fault), c, breakShape(c, fault, 3, 2))
	}
}

// verifierFaults are instructions that have a fault of this code where nothing is held and no guard is on, and how far behind it the fault is told.
func verifierFaults() map[int][]impl.Ins {
	return map[int][]impl.Ins{
		10: list(in(impl.IThrow, 3)),
		11: list(leave),
		12: list(in(impl.ITry, 0, 1), in(impl.IList, 0)),
		13: list(in(impl.IScope, 0), jump(0)),
		14: list(jump(0)),
	}
}

// breakAt puts the instructions that have this fault at a place of a proto that begins with ticks alone, and answers where it is told.
func breakAt(c impl.Code, fault, p, at int) impl.CodeFault {
	x := &c.Protos[p]
	told := at
	for i, ins := range verifierFaults()[fault] {
		x.Ins[at+i] = ins
	}
	switch fault {
	case 12:
		told = at + 1
		x.Ins[at].A = len(x.Ins) - 1
	case 13:
		x.Ins[at+1].A = at
	case 14:
		x.Ins[at].A = at
	}
	return faultOf(fault, p, told)
}

func ticking() impl.Code {
	c := impl.Code{}
	for p := range 3 {
		x := proto(4)
		if p < 2 {
			x.Ins = append(x.Ins, in(impl.IFn, 0, p+1), dropped(0))
		}
		for range 10 {
			x.Ins = append(x.Ins, tick)
		}
		x.Ins = append(x.Ins, jump(5), jump(len(x.Ins)+1))
		c.Protos = append(c.Protos, x)
	}
	return c
}

func TestOrderOfProtos(t *testing.T) {
	verified(t, "no fault", ticking())
	for i := 10; i <= 14; i++ {
		for j := 10; j <= 14; j++ {
			for p := range 3 {
				for q := p + 1; q < 3; q++ {
					c := ticking()
					want := breakAt(c, i, p, 6)
					breakAt(c, j, q, 3)
					wantCode(t, fmt.Sprint(i, " in ", p, ", ", j, " in ", q), c, want)
				}
			}
		}
	}
}

// In one proto: what is come to first is told, but for the rings, which come behind all others.
func TestOrderInOneProto(t *testing.T) {
	for i := 10; i <= 13; i++ {
		for j := 10; j <= 14; j++ {
			for _, high := range []bool{false, true} {
				c := ticking()
				x := &c.Protos[1]
				// Both ways are open from the beginning, so that the lower one is come to first.
				x.Ins[2], x.Ins[3] = zero, in(impl.IIf, took(0), 8)
				one, two := 5, 9
				if high && j == 14 {
					one, two = 9, 5
				}
				want := breakAt(c, i, 1, one)
				if high && j == 14 {
					x.Ins[two+1] = jump(two)
				}
				breakAt(c, j, 1, two)
				wantCode(t, fmt.Sprint(i, " at ", one, ", ", j, " at ", two), c, want)
			}
		}
	}
}

func TestOrderInOneInstruction(t *testing.T) {
	start := list(zero, in(impl.IList, 1))
	for _, c := range []struct {
		what      string
		fault, at int
		more      []impl.Ins
	}{
		{"10 ahead of 11: a defer of nothing, with no scope", 10, 2, list(in(impl.IDefer, 3, 1), throw)},
		{"10 ahead of 11: a defer of nothing, inside a try", 10, 3, list(in(impl.ITry, 4, 2), in(impl.IDefer, 0, 3), throw)},
		{"10 ahead of 12: taken below, not a value", 10, 3, list(in(impl.ITry, 4, 2), in(impl.IMove, 3, took(1)), throw)},
		{"10 ahead of 12: each over something held", 10, 3, list(in(impl.ITry, 4, 2), in(impl.IEach, 0), throw)},
		{"11 ahead of 12: a defer that takes, inside a try", 11, 3, list(in(impl.ITry, 4, 2), in(impl.IDefer, took(0), took(1)), throw)},
		{"12 ahead of 13: a defer that takes, at a loop", 12, 4, list(in(impl.ITry, 6, 2), in(impl.IScope, 2), in(impl.IDefer, took(0), 1), jump(4), throw)},
		{"10 ahead of 13: the next one reached before", 10, 3, list(in(impl.IIf, 0, 4), in(impl.IAdd, 1, 2), throw)},
		{"11 ahead of 13: the next one reached before", 11, 3, list(in(impl.IIf, 0, 4), leave, throw)},
		{"12 ahead of 13: the next one reached before", 12, 4, list(in(impl.ITry, 6, 1), in(impl.IIf, 0, 5), dropped(0), throw, throw)},
		{"12 alone", 12, 3, list(in(impl.ITry, 5, 1), dropped(0), throw, throw)},
		{"13 ahead of what the follower has", 13, 4, list(in(impl.IIf, 0, 4), dropped(1), in(impl.IMove, 3, 2), throw)},
		{"13 alone", 13, 4, list(in(impl.IIf, 0, 4), dropped(1), throw)},
		{"13 ahead of 14", 13, 3, list(jump(3), when(3), dropped(0), jump(3))},
		{"10 behind a ring", 10, 4, list(when(2), jump(4), in(impl.IThrow, 1))},
		{"14 alone", 14, 2, list(when(2), jump(4), throw)},
	} {
		all := append(list(start...), c.more...)
		wantCode(t, c.what, code(proto(4, all...)), faultOf(c.fault, 0, c.at))
	}
}

// The least number of the set comes first, whichever came into it first.
func TestLeastNumberFirst(t *testing.T) {
	wrong := in(impl.IThrow, 3)
	for _, c := range []struct {
		what string
		at   int
		list []impl.Ins
	}{
		{"the next one ahead of a higher target", 2, list(zero, when(4), wrong, throw, wrong)},
		{"a lower target ahead of the next one", 2, list(zero, jump(4), wrong, throw, when(2), wrong)},
		{"only what is reached", 5, list(zero, jump(4), wrong, throw, when(5), wrong)},
		{"the way goes on below a higher one", 4, list(zero, when(6), in(impl.IAt, 0), in(impl.IAt, 1), wrong, throw, wrong)},
		{"back and forth", 4, list(zero, jump(5), throw, wrong, wrong, when(7), jump(4), when(3), wrong)},
		{"three are waiting", 6, list(zero, jump(3), wrong, when(7), when(6), jump(8), wrong, wrong, when(2), throw)},
	} {
		wantCode(t, c.what, code(proto(4, c.list...)), faultOf(10, 0, c.at))
	}
}
