package tests

import (
	"fmt"
	"math"
	"testing"

	"loop.example/draft/impl"
)

func TestEachKindAlone(t *testing.T) {
	for _, kind := range allKinds {
		w := &world{}
		valid(t, fmt.Sprint("kind ", kind), w.around(w.sample(kind)))
	}
}

func TestAllKindsInOneText(t *testing.T) {
	w := &world{}
	var kids []tree
	for _, kind := range allKinds {
		x := w.sample(kind)
		if !isStatement(kind) {
			x = giveBack(x)
		}
		kids = append(kids, x)
	}
	valid(t, "all kinds", w.around(block(kids...)))
}

func TestForms(t *testing.T) {
	call1 := func() tree { return call(none()) }
	for i, x := range []tree{
		stmt(impl.NLet).refs(1),
		stmt(impl.NLet).refs(1, 2, 3),
		stmt(impl.NLet, none(), none()).refs(1),
		stmt(impl.NLet, call1()).refs(2, 1),
		stmt(impl.NSet, variable(0), expr(impl.NUp).refs(0), expr(impl.NIndex, variable(0), one()), none(), none()).num(3),
		stmt(impl.NSet, variable(0), variable(0), none()).num(1),
		stmt(impl.NSet, variable(0), variable(0), call1()).num(2),
		stmt(impl.NIf, none(), block(), block()),
		stmt(impl.NIf, none(), block(), stmt(impl.NIf, none(), block(), stmt(impl.NIf, none(), block()))),
		stmt(impl.NEach, none(), block()).refs(1, 2),
		stmt(impl.NEach, none(), block()).refs(1, 2, 3),
		stmt(impl.NEach, none(), block()).refs(1, 2, 3, 4),
		giveBack(none(), one(), call1()),
		giveBack(call1(), expr(impl.NRest), none()),
		block(block(block()), block()),
		call(none(), one(), call1(), expr(impl.NRest)),
		expr(impl.NTable, one(), none(), none(), one()),
		expr(impl.NTable, one(), call1()),
		expr(impl.NTable, one(), call1()).op(1),
		expr(impl.NTable, one(), expr(impl.NRest)).op(1),
		expr(impl.NTable, none(), one(), one(), call1(), one(), call1()).op(1),
		expr(impl.NOne, expr(impl.NRest)),
		stmt(impl.NDefer, call(none(), one())),
		while(stmt(impl.NIf, none(), block(stmt(impl.NBreak)), block(stmt(impl.NNext)))),
	} {
		w := &world{vars: 4}
		valid(t, fmt.Sprint("form ", i), w.around(x))
	}
}

func TestValuesThatFit(t *testing.T) {
	var xs []tree
	for op := impl.OpAdd; op <= impl.OpGe; op++ {
		xs = append(xs, expr(impl.NBinary, none(), none()).op(op))
	}
	for op := impl.OpNeg; op <= impl.OpLen; op++ {
		xs = append(xs, expr(impl.NUnary, none()).op(op))
	}
	for b := range impl.Builtins {
		xs = append(xs, expr(impl.NBuiltin).num(int64(b)))
	}
	for _, num := range []int64{0, 1, -1, math.MinInt64, math.MaxInt64} {
		xs = append(xs, expr(impl.NInt).num(num))
	}
	for _, flt := range []float64{0, math.Copysign(0, -1), 1.5, -2, math.Inf(1), math.Inf(-1), math.MaxFloat64} {
		x := expr(impl.NFlt)
		x.node.Flt = flt
		xs = append(xs, x)
	}
	for _, str := range []string{"", "a", "\x00\xff", longText(impl.MaxStr)} {
		x := expr(impl.NStr)
		x.node.Str = str
		xs = append(xs, x)
	}
	for _, x := range xs {
		w := &world{}
		valid(t, fmt.Sprintf("kind %d, op %d, num %d, flt %v", x.node.Kind, x.node.Op, x.node.Num, x.node.Flt), w.around(x))
	}
}

func TestEmptyListsAreNil(t *testing.T) {
	u := impl.Unit{Fns: []impl.Fn{{Vars: []string{}, Ups: []impl.Up{}, Nodes: []impl.Node{
		{Kind: impl.NBlock, Line: 1, Refs: []int{}, Kids: []int{}},
	}}}}
	valid(t, "empty lists", u)
	valid(t, "no lists", text(0))
}

// Three fns in each other, the innermost closing over a variable of each of the two around it.
func TestFnsInFns(t *testing.T) {
	u := text(2, let(0, none()), let(1, closure(1)))
	u.Fns = append(u.Fns,
		impl.Fn{Name: "middle", Params: 1, Vars: names(2), Ups: []impl.Up{local(0)}, Nodes: nodesOf(block(
			let(1, none()),
			giveBack(closure(2), expr(impl.NUp).refs(0)),
		))},
		impl.Fn{Line: 9, Ups: []impl.Up{outer(0), local(0), local(1), outer(0)}, Nodes: nodesOf(block(
			stmt(impl.NSet, expr(impl.NUp).refs(3), expr(impl.NUp).refs(1)).num(1),
		))},
	)
	valid(t, "fns in fns", u)
	u.Fns[2].Ups[3].Index = 1
	want(t, "an up too far", u, impl.Fault{Code: 8, Fn: 1, Node: 2})
}

// The fns of a text need not be made in the order of their numbers, nor by the text itself.
func TestFnsOutOfOrder(t *testing.T) {
	u := text(0, do(closure(3)), do(closure(1)))
	u.Fns = append(u.Fns, plain(), plain(), plain())
	u.Fns[1].Nodes = nodesOf(block(giveBack(closure(2))))
	valid(t, "out of order", u)
}

// Nodes may have any order in which kids stand ahead of their parents.
func TestNodesOutOfOrder(t *testing.T) {
	u := impl.Unit{Fns: []impl.Fn{{Vars: names(1), Nodes: []impl.Node{
		{Kind: impl.NVar, Refs: []int{0}},
		{Kind: impl.NReturn, Line: 2, Kids: []int{0}},
		{Kind: impl.NLet, Line: 1, Refs: []int{0}},
		{Kind: impl.NBlock, Line: 1, Kids: []int{2, 1}},
	}}}}
	valid(t, "used by an earlier node, declared ahead of it in the block", u)
}

// What lies in the room behind an argument's lists is the caller's.
func TestRoomBehindLists(t *testing.T) {
	kids := []int{0, 77}
	refs := []int{0, 88}
	nodes := []impl.Node{
		{Kind: impl.NNil},
		{Kind: impl.NLet, Line: 1, Refs: refs[:1], Kids: kids[:1]},
		{Kind: impl.NBlock, Line: 1, Kids: []int{1}},
		{Kind: 99},
	}
	u := impl.Unit{Fns: []impl.Fn{{Vars: []string{"a", "b"}[:1], Nodes: nodes[:3]}}}
	valid(t, "room", u)
	if kids[1] != 77 || refs[1] != 88 || nodes[3].Kind != 99 {
		t.Error("something was written behind a list")
	}
}
