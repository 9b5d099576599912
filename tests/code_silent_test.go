package tests

import (
	"fmt"
	"slices"
	"testing"

	"loop.example/draft/impl"
)

var (
	tick  = in(impl.ITick)
	zero  = in(impl.IConst, 0)
	throw = in(impl.IThrow, 0)
)

func jump(to int) impl.Ins     { return in(impl.IJump, to) }
func when(to int) impl.Ins     { return in(impl.IIf, 0, to) }
func binary(op int) impl.Ins   { return in(impl.IBinary, 0, op, 0, 0) }
func dropped(reg int) impl.Ins { return in(impl.IDrop, reg) }

// ringCase is a code of four registers and the least instruction on a ring of silent steps in it, -1 for none.
type ringCase struct {
	what  string
	least int
	list  []impl.Ins
}

func (c ringCase) ask(t *testing.T) {
	t.Helper()
	all := code(proto(4, c.list...))
	if c.least < 0 {
		verified(t, c.what, all)
	} else {
		wantCode(t, c.what, all, faultOf(14, 0, c.least))
	}
}

func TestRings(t *testing.T) {
	for _, c := range []ringCase{
		{"a jump to itself", 0, list(jump(0))},
		{"a jump to itself behind others", 2, list(zero, tick, jump(2))},
		{"a jump to itself that is not reached", -1, list(zero, throw, jump(2))},
		{"a ring that is not reached", -1, list(zero, throw, jump(3), jump(2))},
		{"two jumps", 1, list(zero, jump(2), jump(1))},
		{"a line", -1, list(zero, in(impl.ILine, 1), jump(1))},
		{"a tick", -1, list(zero, tick, jump(1))},
		{"another line at hand", 1, list(zero, in(impl.IAt, 1), jump(1))},
		{"the tick is ahead of the ring", 2, list(zero, tick, in(impl.IAt, 1), jump(2))},
		{"the tick is at the end", -1, list(zero, in(impl.IAt, 1), tick, jump(1))},
		{"the tick is passed over", 1, list(zero, when(3), tick, jump(1))},
		{"the tick is passed over by unless", 1, list(zero, in(impl.IUnless, 0, 3), tick, jump(1))},
		{"a way out with a tick, a way round without", 1, list(zero, in(impl.IAt, 0), when(1), tick, jump(3))},
		{"if to the next one", -1, list(zero, when(2), tick, jump(1))},
		{"if to itself", 1, list(zero, when(1), tick, jump(2))},
	} {
		c.ask(t)
	}
}

func TestRingsWithOperations(t *testing.T) {
	for op := impl.OpAdd; op <= impl.OpGe; op++ {
		least := 1
		if op == impl.OpJoin {
			least = -1
		}
		ringCase{fmt.Sprint("operation ", op), least, list(zero, binary(op), jump(1))}.ask(t)
	}
	for op := impl.OpNeg; op <= impl.OpLen; op++ {
		ringCase{fmt.Sprint("operation ", op), 1, list(zero, in(impl.IUnary, 0, op, 0), jump(1))}.ask(t)
	}
	join := binary(impl.OpJoin)
	calls := in(impl.ICall, 1, 0, 1)
	for _, c := range []ringCase{
		{"a join that is passed over", 1, list(zero, when(3), join, jump(1))},
		{"a call", -1, list(zero, in(impl.IList, 1), calls, jump(2))},
		{"a call that is passed over", 2, list(zero, in(impl.IList, 1), when(4), calls, jump(2))},
		{"a defer is no call", 2, list(zero, in(impl.IScope, 0), in(impl.IList, 1), in(impl.IDefer, 0, took(1)), jump(2))},
		{"an element whose number is that of a join", 1, list(in(impl.IList, 1), in(impl.IPick, 0, 1, impl.OpJoin), dropped(0), jump(1))},
	} {
		c.ask(t)
	}
}

func TestRingsOfGuards(t *testing.T) {
	for _, c := range []ringCase{
		{"a try and its end", 0, list(in(impl.ITry, 3, 0), endTry, jump(0), tick, jump(3))},
		{"a try, a tick and its end", -1, list(in(impl.ITry, 4, 0), tick, endTry, jump(0), tick, jump(4))},
		{"a scope that is left", 0, list(in(impl.IScope, 0), leave, jump(0))},
		{"a scope that is left, with a tick", -1, list(in(impl.IScope, 0), tick, leave, jump(0))},
		{"a keep", 1, list(in(impl.IScope, 0), keep(0), jump(1))},
		{"through a handler", 0, list(in(impl.ITry, 3, 0), tick, jump(1), dropped(0), dropped(1), jump(0))},
		{"through a handler with a tick", -1, list(in(impl.ITry, 3, 0), tick, jump(1), dropped(0), tick, dropped(1), jump(0))},
		{"through a handler, behind a tick", 1, list(tick, in(impl.ITry, 4, 0), tick, jump(2), dropped(0), dropped(1), jump(1))},
		{"through a handler, over a tick", -1, list(tick, in(impl.ITry, 4, 0), tick, jump(2), dropped(0), dropped(1), jump(0))},
		{"within a handler", 4, list(zero, in(impl.ITry, 4, 1), tick, jump(2), when(4), throw)},
	} {
		c.ask(t)
	}
}

func TestRingsOfLoops(t *testing.T) {
	three := list(in(impl.IConst, 0), in(impl.IConst, 1), in(impl.IConst, 2))
	each := list(in(impl.IConst, 0), in(impl.IEach, 0))
	loop := func(start []impl.Ins, all ...impl.Ins) []impl.Ins { return append(slices.Clone(start), all...) }
	for _, c := range []ringCase{
		{"for without a tick", 4, loop(three, in(impl.IFor, 0), in(impl.IForTest, 0, 6), in(impl.IForNext, 0, 4), throw)},
		{"for with a tick", -1, loop(three, in(impl.IFor, 0), in(impl.IForTest, 0, 7), tick, in(impl.IForNext, 0, 4), throw)},
		{"the test by its target", 4, loop(three, in(impl.IFor, 0), in(impl.IForTest, 0, 4), tick, throw)},
		{"the next one by its target", 3, loop(three, in(impl.IForNext, 0, 3), throw)},
		{"the next one to the next", -1, loop(three, in(impl.IForNext, 0, 4), throw)},
		{"each, by the next", -1, loop(each, in(impl.IEachNext, 0, 5, 2), dropped(2), jump(2), throw)},
		{"each, by the other", 2, loop(each, in(impl.IEachNext, 0, 4, 2), throw, jump(2))},
		{"each, by the other to itself", 2, loop(each, in(impl.IEachNext, 0, 2, 2), throw)},
		{"each, by the other with a tick", -1, loop(each, in(impl.IEachNext, 0, 4, 2), throw, tick, jump(2))},
		{"each, both to the next, round", 3, loop(each, in(impl.IList, 2), in(impl.IEachNext, 0, 4, 2), jump(3))},
		{"each, both to the next", -1, loop(each, in(impl.IList, 2), in(impl.IEachNext, 0, 4, 2), throw)},
		{"each begun anew", 1, list(zero, in(impl.IEach, 0), dropped(1), jump(1))},
	} {
		c.ask(t)
	}
}

// Of several rings, and of one that is come to from above, the least instruction is told.
func TestLeastOnARing(t *testing.T) {
	for _, c := range []ringCase{
		{"two rings, one behind the other", 1, list(zero, when(1), when(2), throw)},
		{"two rings, the higher come to first", 3, list(zero, jump(4), jump(2), jump(4), jump(3))},
		{"a ring come to from above", 2, list(zero, jump(5), in(impl.IAt, 0), in(impl.IAt, 1), jump(5), jump(2))},
		{"rings in rings", 1, list(zero, in(impl.IAt, 0), when(2), when(1), throw)},
		{"two rings with a way from the higher to the lower", 2, list(zero, jump(5), jump(2), tick, tick, when(5), jump(2))},
		{"a ring, and what leads to it is lower", 3, list(zero, in(impl.IAt, 0), in(impl.IAt, 1), jump(4), jump(3))},
		{"a ring, and what it leads to is lower", 6, list(zero, jump(5), in(impl.IAt, 0), in(impl.IAt, 1), throw, tick, when(6), jump(2))},
		{"an eight", 1, list(zero, when(3), jump(4), jump(1), when(1), throw)},
		{"between two rings", 4, list(zero, jump(4), in(impl.IAt, 0), jump(6), when(4), jump(2), when(6), throw)},
	} {
		c.ask(t)
	}
}

// The longest ring, with and without a tick in it, forward and backward.
func TestLongRings(t *testing.T) {
	forward := slices.Repeat([]impl.Ins{in(impl.IAt, 1)}, impl.MaxIns)
	forward[impl.MaxIns-1] = jump(0)
	backward := make([]impl.Ins, impl.MaxIns)
	for i := range backward {
		backward[i] = jump((i + impl.MaxIns - 1) % impl.MaxIns)
	}
	branching := make([]impl.Ins, impl.MaxIns)
	branching[0] = zero
	for i := 1; i < impl.MaxIns-1; i++ {
		branching[i] = when((i*7919)%(impl.MaxIns-i-1) + i + 1)
	}
	branching[impl.MaxIns-1] = throw
	for _, c := range []ringCase{{"forward", 0, forward}, {"backward", 0, backward}, {"branching", -1, branching}} {
		c.ask(t)
		c.list = slices.Clone(c.list)
		c.list[impl.MaxIns/2], c.least, c.what = tick, -1, c.what+" with a tick"
		c.ask(t)
	}
	branching[impl.MaxIns-1] = jump(impl.MaxIns / 3)
	ringCase{"branching and back", impl.MaxIns / 3, branching}.ask(t)
}
