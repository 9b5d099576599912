package tests

import (
	"testing"

	"loop.example/draft/impl"
)

func wantAlone(t *testing.T, what string, fault, at int, all ...impl.Ins) {
	t.Helper()
	wantCode(t, what, code(proto(4, all...)), faultOf(fault, 0, at))
}

// twoWays is a code in which one way goes through these instructions and the other one through those, to one instruction behind both.
func twoWays(one, two []impl.Ins) (impl.Code, int) {
	all := list(in(impl.IConst, 0))
	meet := 2 + len(one) + 1 + len(two)
	all = append(all, in(impl.IIf, 0, 2+len(one)+1))
	all = append(all, one...)
	all = append(all, in(impl.IJump, meet))
	all = append(all, two...)
	all = append(all, in(impl.ITick), in(impl.IJump, meet))
	end := len(all)
	for i, x := range all {
		if x.Op == impl.ITry && x.A < 0 {
			all[i].A = end + (-1-x.A)*2
		}
	}
	for range 4 {
		all = append(all, in(impl.ITick), in(impl.IJump, len(all)))
	}
	return code(proto(6, all...)), meet
}

// handled is an ITry that goes on at one of the rings at the end, by its number.
func handled(ring, keep int) impl.Ins { return in(impl.ITry, -1-ring, keep) }

func TestTwoWaysToOneInstruction(t *testing.T) {
	value, another := in(impl.IConst, 1), in(impl.IConst, 2)
	boxed := in(impl.IBox, 1, 0)
	aList := in(impl.IList, 1)
	for _, c := range []struct {
		what     string
		one, two []impl.Ins
		same     bool
	}{
		{"nothing", nil, nil, true},
		{"the same", list(value), list(value), true},
		{"the same by another way", list(value), list(in(impl.IMove, 1, 0)), true},
		{"the same in another order", list(value, another), list(another, value), true},
		{"put in and dropped", list(value, in(impl.IDrop, 1)), nil, true},
		{"a value and nothing", list(value), nil, false},
		{"nothing and a value", nil, list(value), false},
		{"a value and a box", list(value), list(boxed), false},
		{"a value and a list", list(value), list(aList), false},
		{"a box and a list", list(boxed), list(aList), false},
		{"a box and nothing", list(boxed), nil, false},
		{"a list and nothing", list(aList), nil, false},
		{"another register", list(value), list(another), false},
		{"the last register", list(in(impl.IConst, 5)), nil, false},
		{"the first register", list(in(impl.IDrop, 0)), nil, false},
		{"the same scope", list(scope(1)), list(scope(1)), true},
		{"a scope and none", list(scope(1)), nil, false},
		{"none and a scope", nil, list(scope(1)), false},
		{"scopes with other keeps", list(scope(1)), list(scope(2)), false},
		{"one scope and two", list(scope(1)), list(scope(1), scope(1)), false},
		{"a scope whose keep became the same", list(scope(1)), list(scope(2), keep(1)), true},
		{"a scope that was left", list(scope(1), leave), nil, true},
		{"the same try", list(handled(0, 1)), list(handled(0, 1)), true},
		{"a try that was ended", list(handled(0, 1), endTry), nil, true},
		{"a try and none", list(handled(0, 1)), nil, false},
		{"tries with other handlers", list(handled(0, 1)), list(handled(1, 1)), false},
		{"tries with other keeps", list(handled(0, 1)), list(handled(1, 2)), false},
		{"a try and a scope", list(handled(0, 1)), list(scope(1)), false},
		{"the same ones in another order", list(handled(0, 1), scope(1)), list(scope(1), handled(1, 1)), false},
		{"the same ones, the outer keep other", list(scope(1), scope(3)), list(scope(2), scope(3)), false},
		{"the same ones, the inner keep other", list(scope(3), scope(1)), list(scope(3), scope(2)), false},
	} {
		all, meet := twoWays(c.one, c.two)
		if c.same {
			verified(t, c.what, all)
		} else {
			wantCode(t, c.what, all, faultOf(13, 0, meet))
		}
	}
}

// Two tries with one handler, where the states ahead of them are the same or not.
func TestHandlerReachedTwice(t *testing.T) {
	value := in(impl.IConst, 4)
	for _, c := range []struct {
		what     string
		one, two []impl.Ins
		same     bool
	}{
		{"the same", list(handled(0, 1), endTry), list(handled(0, 1), endTry), true},
		{"something held above the keep", list(value, handled(0, 1), endTry, in(impl.IDrop, 4)), list(handled(0, 1), endTry), true},
		{"something held at the keep", list(value, handled(0, 4), endTry, in(impl.IDrop, 4)), list(handled(0, 4), endTry), true},
		{"something held below the keep", list(in(impl.IConst, 1), handled(0, 2), endTry, in(impl.IDrop, 1)), list(handled(0, 2), endTry), false},
		{"other keeps", list(handled(0, 1), endTry), list(handled(0, 2), endTry), false},
		{"keeps that come to the same", list(in(impl.IConst, 1), handled(0, 2), endTry, in(impl.IDrop, 1)),
			list(in(impl.IConst, 1), handled(0, 2), endTry, in(impl.IDrop, 1)), true},
		{"inside a scope", list(scope(1), handled(0, 1), endTry, leave), list(handled(0, 1), endTry), false},
		{"inside scopes", list(scope(1), handled(0, 1), endTry, leave), list(scope(1), handled(0, 1), endTry, leave), true},
	} {
		all, meet := twoWays(c.one, c.two)
		if c.same {
			verified(t, c.what, all)
		} else {
			wantCode(t, c.what, all, faultOf(13, 0, meet+2))
		}
	}
}

func TestStateAtTheHandler(t *testing.T) {
	verifiedAs(t, "with things held below, at and above the keep",
		line{".......", in(impl.IConst, 0)},
		line{"v......", in(impl.IBox, 1, 0)},
		line{"vb.....", in(impl.IList, 2)},
		line{"vbl....", in(impl.IList, 3)},
		line{"vbll...", in(impl.IConst, 5)},
		line{"vbll.v.", in(impl.ITry, 10, 2)},
		line{"vbll.v. T2@10", in(impl.IConst, 6)},
		line{"vbll.vv T2@10", in(impl.IEndTry)},
		line{"vbll.vv", in(impl.IThrow, 0)},
		line{"-", in(impl.IJump, 0)},
		line{"vbvv...", in(impl.IThrow, 3)},
	)
	verifiedAs(t, "with the least keep",
		line{"...", in(impl.IList, 2)},
		line{"..l", in(impl.ITry, 3, 0)},
		line{"..l T0@3", in(impl.IReturn, took(2))},
		line{"vv.", in(impl.IThrow, took(1))},
	)
	verifiedAs(t, "with the greatest keep",
		line{"...", in(impl.IConst, 0)},
		line{"v..", in(impl.ITry, 3, 1)},
		line{"v.. T1@3", in(impl.IThrow, 0)},
		line{"vvv", in(impl.IThrow, took(2))},
	)
	verifiedAs(t, "the guards are those from ahead of it",
		line{"....", in(impl.IScope, 4)},
		line{".... S4", in(impl.ITry, 6, 0)},
		line{".... S4 T0@6", in(impl.ITry, 8, 1)},
		line{".... S4 T0@6 T1@8", in(impl.IEndTry)},
		line{".... S4 T0@6", in(impl.ITick)},
		line{".... S4 T0@6", in(impl.IJump, 4)},
		line{"vv.. S4", in(impl.ILeave)},
		line{"vv..", in(impl.IThrow, 0)},
		line{".vv. S4 T0@6", in(impl.IThrow, 1)},
	)
	wantAlone(t, "what was held above is gone", 10, 4,
		in(impl.IConst, 3), in(impl.ITry, 4, 0), in(impl.ITick), in(impl.IJump, 2), in(impl.IThrow, 3))
	wantAlone(t, "the guard is off", 11, 3,
		in(impl.ITry, 3, 0), in(impl.ITick), in(impl.IJump, 1), in(impl.IEndTry), in(impl.IThrow, 0))
	wantAlone(t, "the handler is the next one", 13, 1,
		in(impl.ITry, 1, 0), in(impl.ITick), in(impl.IJump, 1))
	wantAlone(t, "the handler is the try itself", 13, 0,
		in(impl.ITry, 0, 0), in(impl.ITick), in(impl.IJump, 1))
}

func TestStatesBehindEachNext(t *testing.T) {
	verifiedAs(t, "the list is there in the next one alone",
		line{"....", in(impl.IConst, 0)},
		line{"v...", in(impl.IEach, 0)},
		line{"vv..", in(impl.IEachNext, 0, 5, 2)},
		line{"vvl.", in(impl.IDrop, 2)},
		line{"vv..", in(impl.IJump, 2)},
		line{"vv..", in(impl.IThrow, 0)},
	)
	verifiedAs(t, "what was there stays at the other",
		line{"....", in(impl.IConst, 0)},
		line{"v...", in(impl.IEach, 0)},
		line{"vv..", in(impl.IConst, 2)},
		line{"vvv.", in(impl.IEachNext, 0, 5, 2)},
		line{"vvl.", in(impl.IReturn, 2)},
		line{"vvv.", in(impl.IThrow, 2)},
	)
	verifiedAs(t, "both are one when a list was there",
		line{"....", in(impl.IConst, 0)},
		line{"v...", in(impl.IEach, 0)},
		line{"vv..", in(impl.IList, 2)},
		line{"vvl.", in(impl.IEachNext, 0, 4, 2)},
		line{"vvl.", in(impl.IReturn, took(2))},
	)
	start := list(in(impl.IConst, 0), in(impl.IEach, 0))
	wantAlone(t, "both are one", 13, 3, append(start, in(impl.IEachNext, 0, 3, 2), in(impl.IThrow, 0))...)
	wantAlone(t, "the list is not dropped", 13, 2, append(start, in(impl.IEachNext, 0, 4, 2), in(impl.IJump, 2), in(impl.IThrow, 0))...)
	wantAlone(t, "the list asked for at the other", 10, 4,
		append(start, in(impl.IEachNext, 0, 4, 2), in(impl.IReturn, 2), in(impl.IReturn, 2))...)
	wantAlone(t, "the place goes at the next", 10, 3,
		append(start, in(impl.IEachNext, 0, 4, 1), in(impl.IEachNext, 0, 4, 2), in(impl.IThrow, 1))...)
	wantAlone(t, "over the place itself", 13, 2,
		append(start, in(impl.IEachNext, 0, 4, 0), in(impl.IJump, 2), in(impl.IThrow, 0))...)
}

// A jump back to where less or more was held.
func TestBackToTheBeginning(t *testing.T) {
	wantAlone(t, "more held than at first", 13, 0, in(impl.IConst, 0), in(impl.IJump, 0))
	wantAlone(t, "less held than at first", 13, 1, in(impl.IConst, 0), in(impl.ITick), in(impl.IDrop, 0), in(impl.IJump, 1))
	wantAlone(t, "a guard more", 13, 0, in(impl.IScope, 0), in(impl.ITick), in(impl.IJump, 0))
	wantAlone(t, "to itself, taking", 13, 1, in(impl.IConst, 0), in(impl.IIf, took(0), 1), in(impl.ITick), in(impl.IJump, 2))
	verifiedAs(t, "the same held as at first",
		line{"..", in(impl.ITick)},
		line{"..", in(impl.IConst, 1)},
		line{".v", in(impl.IIf, took(1), 0)},
		line{"..", in(impl.IJump, 0)},
	)
}

// The next one gets its state ahead of the other; it is told first when both are wrong.
func TestNextAheadOfTarget(t *testing.T) {
	wantAlone(t, "both reached before, the target lower", 13, 6,
		in(impl.IConst, 0), in(impl.IIf, 0, 4), in(impl.IIf, 0, 6), in(impl.IJump, 5),
		in(impl.IJump, 4), in(impl.IIf, took(0), 4), in(impl.IThrow, 0))
	wantAlone(t, "only the target reached before", 13, 0,
		in(impl.IConst, 0), in(impl.IConst, 1), in(impl.IIf, took(0), 0), in(impl.ITick), in(impl.IJump, 3))
}
