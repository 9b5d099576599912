package tests

import (
	"math"
	"slices"
	"testing"

	"loop.example/draft/impl"
)

func TestVerifiedPlainOps(t *testing.T) {
	verifiedAs(t, "values, boxes, tables",
		line{".......", in(impl.ILine, 1)},
		line{".......", in(impl.IAt, 0)},
		line{".......", in(impl.ITick)},
		line{".......", in(impl.IConst, 0, 1)},
		line{"v......", in(impl.IMove, 1, 0)},
		line{"vv.....", in(impl.IMove, 2, took(1))},
		line{"v.v....", in(impl.IBox, 1, took(2))},
		line{"vb.....", in(impl.IGet, 2, 1)},
		line{"vbv....", in(impl.IPut, 1, took(2))},
		line{"vb.....", in(impl.ITable, 2)},
		line{"vbv....", in(impl.IRaw, 2, 0, 0)},
		line{"vbv....", in(impl.IList, 3)},
		line{"vbvl...", in(impl.IConst, 4)},
		line{"vbvlv..", in(impl.IRawAll, 2, took(4), took(3))},
		line{"vbv....", in(impl.IIndex, 3, 2, 0)},
		line{"vbvv...", in(impl.ISet, 2, 0, took(3))},
		line{"vbv....", in(impl.IUnary, 4, impl.OpLen, 2)},
		line{"vbv.v..", in(impl.IBinary, 4, impl.OpGe, took(4), 0)},
		line{"vbv.v..", in(impl.IDrop, 1)},
		line{"v.v.v..", in(impl.IDrop, 1)},
		line{"v.v.v..", in(impl.IThrow, 4)},
	)
}

func TestVerifiedListOps(t *testing.T) {
	verifiedAs(t, "lists and calls",
		line{"......", in(impl.IList, 0)},
		line{"l.....", in(impl.IConst, 1)},
		line{"lv....", in(impl.IAdd, 0, 1)},
		line{"lv....", in(impl.ICopy, 2, 0)},
		line{"lvl...", in(impl.IJoin, 0, 0)},
		line{"lvl...", in(impl.IJoin, 0, took(2))},
		line{"lv....", in(impl.IPick, 2, 0, impl.MaxRegs)},
		line{"lvv...", in(impl.ICall, 3, 2, 0)},
		line{"lvvl..", in(impl.ICall, 2, took(2), took(3))},
		line{"lvl...", in(impl.IFirst, 3, 2)},
		line{"lvlv..", in(impl.IFirst, 2, took(2))},
		line{"lvvv..", in(impl.IReturn, 0)},
	)
}

func TestVerifiedJumps(t *testing.T) {
	verifiedAs(t, "jumps",
		line{"....", in(impl.IConst, 0)},
		line{"v...", in(impl.IIf, 0, 3)},
		line{"v...", in(impl.IUnless, 0, 5)},
		line{"v...", in(impl.ITick)},
		line{"v...", in(impl.IJump, 1)},
		line{"v...", in(impl.IIf, took(0), 8)},
		line{"....", in(impl.IJump, 8)},
		line{"-", in(impl.IJump, 7)},
		line{"....", in(impl.IList, 3)},
		line{"...l", in(impl.IReturn, took(3))},
	)
}

func TestVerifiedLoops(t *testing.T) {
	verifiedAs(t, "for and each",
		line{"......", in(impl.IConst, 0)},
		line{"v.....", in(impl.IConst, 1)},
		line{"vv....", in(impl.IConst, 2)},
		line{"vvv...", in(impl.IFor, 0)},
		line{"vvv...", in(impl.IForTest, 0, 8)},
		line{"vvv...", in(impl.ITick)},
		line{"vvv...", in(impl.IForNext, 0, 4)},
		line{"vvv...", in(impl.IJump, 8)},
		line{"vvv...", in(impl.IDrop, 1)},
		line{"v.v...", in(impl.IEach, 0)},
		line{"vvv...", in(impl.IEachNext, 0, 14, 3)},
		line{"vvvl..", in(impl.IPick, 4, 3, 0)},
		line{"vvvlv.", in(impl.IDrop, 4)},
		line{"vvvl..", in(impl.IReturn, took(3))},
		line{"vvv...", in(impl.IList, 5)},
		line{"vvv..l", in(impl.IReturn, 5)},
	)
}

// Guards of both kinds, one in another, and the way back through the handlers.
func TestVerifiedGuards(t *testing.T) {
	verifiedAs(t, "guards",
		line{"......", in(impl.IConst, 0)},
		line{"v.....", in(impl.IScope, 1)},
		line{"v..... S1", in(impl.IConst, 1)},
		line{"vv.... S1", in(impl.IKeep, 2)},
		line{"vv.... S2", in(impl.IList, 2)},
		line{"vvl... S2", in(impl.IDefer, 1, took(2))},
		line{"vv.... S2", in(impl.ITry, 16, 2)},
		line{"vv.... S2 T2@16", in(impl.IScope, 6)},
		line{"vv.... S2 T2@16 S6", in(impl.ITry, 20, 4)},
		line{"vv.... S2 T2@16 S6 T4@20", in(impl.IConst, 5)},
		line{"vv...v S2 T2@16 S6 T4@20", in(impl.IDrop, 5)},
		line{"vv.... S2 T2@16 S6 T4@20", in(impl.IEndTry)},
		line{"vv.... S2 T2@16 S6", in(impl.ILeave)},
		line{"vv.... S2 T2@16", in(impl.IEndTry)},
		line{"vv.... S2", in(impl.ILeave)},
		line{"vv....", in(impl.IThrow, 1)},
		line{"vvvv.. S2", in(impl.IDrop, 2)},
		line{"vv.v.. S2", in(impl.IDrop, 3)},
		line{"vv.... S2", in(impl.IJump, 14)},
		line{"-", in(impl.IJump, 0)},
		line{"vv..vv S2 T2@16 S6", in(impl.IDrop, 4)},
		line{"vv...v S2 T2@16 S6", in(impl.IDrop, 5)},
		line{"vv.... S2 T2@16 S6", in(impl.IJump, 12)},
	)
}

// Several protos: Ups that are Local and Ups that are not, Params and Rest, in a chain and beside each other.
func TestVerifiedProtos(t *testing.T) {
	first := proto(6,
		in(impl.IConst, 0), in(impl.IBox, 1, 0), in(impl.IBox, 2, took(0)), in(impl.IFn, 0, 1), in(impl.IFn, 1, 3),
		in(impl.IList, 3), in(impl.IReturn, took(3)))
	first.Rest = true
	second := proto(6,
		in(impl.IUpGet, 4, 1), in(impl.IUpPut, 0, took(4)), in(impl.IBox, 1, took(1)), in(impl.IFn, 1, 2),
		in(impl.ICopy, 4, 2), in(impl.IReturn, took(4)))
	second.Params, second.Rest = 2, true
	second.Ups = []impl.Up{local(1), local(2)}
	third := proto(3, in(impl.IUpPut, 2, 0), in(impl.IThrow, 2))
	third.Params = 3
	third.Ups = []impl.Up{outer(1), outer(0), local(1), local(1)}
	fourth := proto(1, in(impl.IReturn, 0))
	fourth.Rest = true
	c := code(first, second, third, fourth)
	states := verified(t, "four protos", c)
	wantStates(t, "proto 0", states[0], []string{"l.....", "v.....", "vb....", ".bb...", "vbb...", "vvb...", "vvbl.."})
	wantStates(t, "proto 1", states[1], []string{"vvl...", "vvl.v.", "vvl...", "vbl...", "vvl...", "vvl.l."})
	wantStates(t, "proto 2", states[2], []string{"vvv", "vvv"})
	wantStates(t, "proto 3", states[3], []string{"l"})
	for _, p := range []int{-1, 4, 5, math.MinInt, math.MaxInt} {
		if got := impl.States(c, p); len(got) != 0 {
			t.Errorf("proto %d: %v", p, got)
		}
	}
}

// A fn may be made in a register in which one of its own boxes was.
func TestFnOverItsBox(t *testing.T) {
	c := code(proto(2, in(impl.IConst, 0), in(impl.IBox, 0, took(0)), in(impl.IFn, 0, 1), in(impl.IThrow, 0)), ending(local(0)))
	states := verified(t, "over its box", c)
	wantStates(t, "over its box", states[0], []string{"..", "v.", "b.", "v."})
}

func TestNoRegisters(t *testing.T) {
	c := code(proto(0, in(impl.ITick), in(impl.IScope, 0), in(impl.ILeave), in(impl.IJump, 0)))
	states := verified(t, "no registers", c)
	wantStates(t, "no registers", states[0], []string{"", "", " S0", ""})
}

func TestUnreached(t *testing.T) {
	// What is never reached may be what no verifier would let pass, if only its shape is right.
	verifiedAs(t, "unreached",
		line{"...", in(impl.IList, 0)},
		line{"l..", in(impl.IReturn, 0)},
		line{"-", in(impl.IEndTry)},
		line{"-", in(impl.IMove, 0, 2)},
		line{"-", in(impl.ITry, 0, 1)},
		line{"-", in(impl.IJump, 5)},
	)
	verifiedAs(t, "unreached behind a throw",
		line{"...", in(impl.IConst, 0)},
		line{"v..", in(impl.IThrow, 0)},
		line{"-", in(impl.IIf, 2, 2)},
		line{"-", in(impl.IJump, 2)},
	)
}

// What States answers is new memory: writing into one list of it changes no other, nor a later answer, nor the code.
func TestStatesShareNothing(t *testing.T) {
	other := ending()
	other.Regs = 3
	c := code(proto(4,
		in(impl.IConst, 0), in(impl.ITry, 7, 1), in(impl.IScope, 1), in(impl.ITick), in(impl.ITick), in(impl.IIf, 0, 4),
		in(impl.IThrow, 0), in(impl.IUnless, 0, 9), in(impl.IThrow, 0), in(impl.IFn, 0, 1), in(impl.IThrow, 0)), other)
	verified(t, "ahead of all", c)
	before := showCode(c)
	for p := range c.Protos {
		first, second := impl.States(c, p), impl.States(c, p)
		var briefs []string
		for _, s := range second {
			briefs = append(briefs, brief(s))
		}
		for i := range first {
			types, guards := first[i].Types, first[i].Guards
			for range 2 {
				for j := range types {
					types[j] = 7
				}
				for j := range guards {
					guards[j] = impl.Guard{Keep: 7, Handler: 7}
				}
				types, guards = types[:cap(types)], guards[:cap(guards)]
			}
			first[i].Types, first[i].Guards = nil, nil
			for j := i + 1; j < len(first); j++ {
				if brief(first[j]) != briefs[j] {
					t.Errorf("proto %d: state %d shares memory with state %d", p, j, i)
				}
			}
		}
		for i, s := range second {
			if brief(s) != briefs[i] {
				t.Errorf("proto %d: two answers share state %d", p, i)
			}
		}
		wantStates(t, "asked again", impl.States(c, p), briefs)
	}
	if showCode(c) != before {
		t.Error("the code shares memory with the answer")
	}
}

// Protos may share their lists; the answers hang on what is in them alone.
func TestProtosThatShareLists(t *testing.T) {
	list := []impl.Ins{in(impl.IList, 0), in(impl.IReturn, 0), in(impl.IFn, 0, 1), in(impl.IFn, 0, 2), in(impl.IThrow, 0)}
	c := code(proto(1, list...), proto(2, list[:2]...), proto(3, list[:2]...))
	states := verified(t, "shared lists", c)
	wantStates(t, "shared lists", states[0], []string{".", "l", "-", "-", "-"})
	wantStates(t, "shared lists", states[1], []string{"..", "l."})
	wantStates(t, "shared lists", states[2], []string{"...", "l.."})
	if !slices.Equal(list, c.Protos[0].Ins) {
		t.Error("the list was changed")
	}
}
