package tests

import (
	"fmt"
	"math"
	"testing"

	"loop.example/draft/impl"
)

func TestParents(t *testing.T) {
	// 0 nil, 1 return, 2 nil, 3 return, 4 body
	base := func() impl.Unit { return text(0, giveBack(none()), giveBack(none())) }
	valid(t, "a tree", base())
	for _, c := range []struct {
		what  string
		node  int
		spoil func(nodes []impl.Node)
	}{
		{"a statement left out", 1, func(nodes []impl.Node) { nodes[4].Kids = []int{3} }},
		{"all left out", 1, func(nodes []impl.Node) { nodes[4].Kids = nil }},
		{"an expression left out", 2, func(nodes []impl.Node) { nodes[3].Kids = nil }},
		{"a statement twice in one block", 3, func(nodes []impl.Node) { nodes[4].Kids = []int{1, 3, 3} }},
		{"an expression twice in one node", 2, func(nodes []impl.Node) { nodes[3].Kids = []int{2, 2} }},
		{"an expression in two nodes", 0, func(nodes []impl.Node) { nodes[3].Kids = []int{2, 0} }},
		{"one twice, one left out", 0, func(nodes []impl.Node) { nodes[3].Kids = []int{0} }},
		{"one left out, one twice", 0, func(nodes []impl.Node) { nodes[1].Kids, nodes[3].Kids = nil, []int{2, 2} }},
		{"a body that is no block", 4, func(nodes []impl.Node) {
			nodes[4] = impl.Node{Kind: impl.NTry, Line: 1, Refs: []int{0, 1}, Kids: []int{1, 3}}
			for n := range 4 {
				nodes[n] = impl.Node{Kind: impl.NBlock, Line: 1}
			}
			nodes[1].Kids, nodes[3].Kids = []int{0}, []int{2}
		}},
	} {
		u := base()
		c.spoil(u.Fns[0].Nodes)
		want(t, c.what, u, impl.Fault{Code: 4, Node: c.node})
	}
}

func TestBodiesThatAreNoBlocks(t *testing.T) {
	for _, kind := range allKinds {
		u := chain(2)
		w := &world{}
		u.Fns[1].Nodes = nodesOf(w.sample(kind))
		last := len(u.Fns[1].Nodes) - 1
		if kind == impl.NBlock {
			valid(t, "a block", u)
		} else {
			want(t, fmt.Sprint("kind ", kind), u, impl.Fault{Code: 4, Fn: 1, Node: last})
		}
	}
}

// nested is an expression in so many others.
func nested(times int) tree {
	x := none()
	for range times {
		x = expr(impl.NUnary, x).op(impl.OpNot)
	}
	return x
}

func TestDepth(t *testing.T) {
	// A return in the body has depth 1, its expression depth 2.
	valid(t, "the deepest expression", text(0, giveBack(nested(impl.MaxNest-2))))
	want(t, "an expression too deep", text(0, giveBack(nested(impl.MaxNest-1))), impl.Fault{Code: 5})
	want(t, "all too deep", text(0, giveBack(none(), nested(500))), impl.Fault{Code: 5, Node: 1})
	x := block()
	for range impl.MaxNest {
		x = block(x)
	}
	u := impl.Unit{Fns: []impl.Fn{{Nodes: nodesOf(x)}}}
	valid(t, "the deepest block", u)
	u = chain(2)
	u.Fns[1].Nodes = nodesOf(block(x))
	want(t, "a block too deep in fn 1", u, impl.Fault{Code: 5, Fn: 1})
	u = text(0, giveBack(nested(2990)))
	want(t, "as deep as can be", u, impl.Fault{Code: 5})
}

// The least node that is too deep is told, wherever it stands in the tree.
func TestDepthByNumber(t *testing.T) {
	u := text(0, giveBack(none()), giveBack(nested(impl.MaxNest)))
	// nodes: 0 nil, 1 return, 2 the innermost (too deep), 3 the next (too deep), ..
	want(t, "the least", u, impl.Fault{Code: 5, Node: 2})
	nodes := u.Fns[0].Nodes
	nodes[0], nodes[2] = impl.Node{Kind: impl.NTrue}, impl.Node{Kind: impl.NFalse}
	nodes[1].Kids, nodes[3].Kids = []int{2}, []int{0}
	nodes[1], nodes[2] = nodes[2], nodes[1]
	nodes[2].Kids = []int{1}
	nodes[len(nodes)-1].Kids[0] = 2
	want(t, "the least, when it stands elsewhere", u, impl.Fault{Code: 5, Node: 0})
}

func TestRefsThatThereAreNot(t *testing.T) {
	for _, far := range []int{-1, math.MinInt, math.MaxInt} {
		for _, kind := range []int{impl.NLet, impl.NFor, impl.NEach, impl.NTry, impl.NVar, impl.NUp, impl.NFn} {
			u, at := spoilt(kind, func(x *tree) {
				x.node.Refs[len(x.node.Refs)-1] = far
			})
			if kind == impl.NFn {
				u.Fns = u.Fns[:2]
			}
			want(t, fmt.Sprint("kind ", kind, ", ref ", far), u, impl.Fault{Code: 6, Fn: 1, Node: at})
		}
	}
	for _, kind := range []int{impl.NLet, impl.NFor, impl.NEach, impl.NTry, impl.NVar} {
		u, at := spoilt(kind, func(x *tree) { x.node.Refs[0] = 100 })
		u.Fns[1].Vars = names(100)
		want(t, fmt.Sprint("kind ", kind, ", one past the vars"), u, impl.Fault{Code: 6, Fn: 1, Node: at})
		if kind != impl.NVar {
			u.Fns[1].Vars = names(101)
			valid(t, fmt.Sprint("kind ", kind, ", the last var"), u)
		}
	}
	u, at := spoilt(impl.NUp, func(x *tree) { x.node.Refs[0] = 1 })
	want(t, "one past the ups", u, impl.Fault{Code: 6, Fn: 1, Node: at})
	u.Fns[1].Ups = append(u.Fns[1].Ups, local(0))
	valid(t, "the last up", u)
	u, at = spoilt(impl.NFn, func(x *tree) {})
	u.Fns = u.Fns[:2]
	want(t, "one past the fns", u, impl.Fault{Code: 6, Fn: 1, Node: at})
}

func TestSecondDeclarations(t *testing.T) {
	declares := []func(w *world, v int) tree{
		func(w *world, v int) tree { return let(v) },
		func(w *world, v int) tree { return stmt(impl.NLet).refs(w.newVar(), v) },
		func(w *world, v int) tree { return w.sample(impl.NFor).refs(v) },
		func(w *world, v int) tree { return w.sample(impl.NEach).refs(v) },
		func(w *world, v int) tree { return w.sample(impl.NEach).refs(w.newVar(), w.newVar(), w.newVar(), v) },
		func(w *world, v int) tree { return w.sample(impl.NTry).refs(v, w.newVar()) },
		func(w *world, v int) tree { return w.sample(impl.NTry).refs(w.newVar(), v) },
	}
	for i, first := range declares {
		w, at := &world{}, 0
		u := w.around(first(w, 0).marked(&at))
		want(t, fmt.Sprint("a parameter by ", i), u, impl.Fault{Code: 6, Fn: 1, Node: at})
		for j, second := range declares {
			w, at := &world{}, 0
			v := w.newVar()
			u := w.around(block(block(first(w, v)), block(second(w, v).marked(&at))))
			want(t, fmt.Sprint(i, " and then ", j), u, impl.Fault{Code: 6, Fn: 1, Node: at})
			w = &world{}
			u = w.around(block(first(w, w.newVar()), second(w, w.newVar())))
			valid(t, fmt.Sprint(i, " and then ", j, " of another"), u)
		}
	}
	for _, kind := range []int{impl.NLet, impl.NEach, impl.NTry} {
		u, at := spoilt(kind, func(x *tree) { x.node.Refs = []int{5, 5} })
		want(t, fmt.Sprint("twice in one node of kind ", kind), u, impl.Fault{Code: 6, Fn: 1, Node: at})
	}
}

// "Second" goes by the numbers of the nodes, not by their order in a block.
func TestSecondByNumber(t *testing.T) {
	u := text(1, let(0), let(0, none()))
	u.Fns[0].Nodes[3].Kids = []int{2, 0}
	want(t, "the later number", u, impl.Fault{Code: 6, Node: 2})
}

// A variable of one fn is another than that of the same number in another fn.
func TestDeclaredInTwoFns(t *testing.T) {
	u := text(1, let(0, closure(1)))
	u.Fns = append(u.Fns, plain())
	u.Fns[1].Vars, u.Fns[1].Nodes = names(1), nodesOf(block(let(0), giveBack(variable(0))))
	valid(t, "one in each", u)
}

func TestBreakAndNext(t *testing.T) {
	for _, kind := range []int{impl.NBreak, impl.NNext} {
		at := 0
		leave := func() tree { return stmt(kind).marked(&at) }
		loops := []tree{
			while(leave()),
			stmt(impl.NFor, none(), none(), none(), block(leave())).refs(0),
			stmt(impl.NEach, none(), block(leave())).refs(0),
		}
		for i, loop := range loops {
			valid(t, fmt.Sprint("in loop ", i), text(4, loop))
			valid(t, fmt.Sprint("in a block in loop ", i), text(4, while(loop)))
		}
		inner := []tree{
			leave(),
			block(leave()),
			stmt(impl.NIf, none(), block(leave())),
			stmt(impl.NIf, none(), block(), block(leave())),
			stmt(impl.NIf, none(), block(), stmt(impl.NIf, none(), block(leave()))),
			stmt(impl.NTry, block(leave()), block()).refs(1, 2),
			stmt(impl.NTry, block(), block(leave())).refs(1, 2),
		}
		for i, x := range inner {
			valid(t, fmt.Sprint("inner ", i, " in a loop"), text(4, while(x)))
			want(t, fmt.Sprint("inner ", i, " in no loop"), text(4, x), impl.Fault{Code: 7, Node: at})
			want(t, fmt.Sprint("inner ", i, " behind a loop"), text(4, while(while()), x), impl.Fault{Code: 7, Node: at})
		}
		u := text(0, while(do(closure(1))))
		u.Fns = append(u.Fns, plain())
		u.Fns[1].Nodes = nodesOf(block(leave()))
		want(t, "in a fn that is made in a loop", u, impl.Fault{Code: 7, Fn: 1, Node: at})
	}
}

func TestRest(t *testing.T) {
	for f := range 2 {
		at := 0
		u := chain(2)
		body := []tree{giveBack(expr(impl.NRest).marked(&at))}
		if f == 0 {
			body = append(body, giveBack(closure(1)))
		}
		u.Fns[f].Nodes = nodesOf(block(body...))
		u.Fns[1-f].Rest = true
		want(t, fmt.Sprint("fn ", f, " without rest"), u, impl.Fault{Code: 8, Fn: f, Node: at})
		u.Fns[f].Rest = true
		valid(t, fmt.Sprint("fn ", f, " with rest"), u)
	}
}

func TestMakers(t *testing.T) {
	u := chain(3)
	u.Fns[1].Nodes[0].Refs[0] = 1
	want(t, "a fn that makes itself", u, impl.Fault{Code: 8, Fn: 1})
	u.Fns[1].Nodes[0].Refs[0] = 0
	want(t, "a fn that makes the text", u, impl.Fault{Code: 8, Fn: 1})
	u = chain(1)
	u.Fns[0].Nodes = nodesOf(block(giveBack(closure(0))))
	want(t, "the text that makes itself", u, impl.Fault{Code: 8})

	u = text(0, giveBack(closure(1), closure(1)))
	u.Fns = append(u.Fns, plain())
	want(t, "made twice by one fn", u, impl.Fault{Code: 8, Node: 1})

	u = text(0, giveBack(closure(1)), giveBack(closure(2)))
	u.Fns = append(u.Fns, plain(), plain())
	u.Fns[1].Nodes = nodesOf(block(giveBack(closure(2))))
	want(t, "made twice by two fns", u, impl.Fault{Code: 8, Fn: 1})

	u = text(0, giveBack(closure(1)))
	u.Fns = append(u.Fns, plain(), plain(), plain())
	want(t, "never made", u, impl.Fault{Code: 9, Fn: 2})
}

// Which of two NFns comes ahead of the other goes by their numbers, not by their order in the tree.
func TestMakersByNumber(t *testing.T) {
	u := text(0, giveBack(closure(1)), giveBack(closure(1)))
	u.Fns = append(u.Fns, plain())
	nodes := u.Fns[0].Nodes
	nodes[4].Kids = []int{3, 1}
	want(t, "the later number", u, impl.Fault{Code: 8, Node: 2})
}

func TestUps(t *testing.T) {
	ups := []struct {
		up   impl.Up
		fits bool
	}{
		{outer(0), true}, {outer(1), true}, {outer(2), false}, {outer(-1), false},
		{outer(math.MinInt), false}, {outer(math.MaxInt), false},
		{local(0), true}, {local(1), true}, {local(2), false}, {local(3), false}, {local(-1), false},
		{local(math.MinInt), false}, {local(math.MaxInt), false},
	}
	for _, c := range ups {
		at := 0
		u := text(1, let(0), do(closure(1)))
		// Variable 0 is a parameter, 1 a variable in scope, 2 one that is never declared.
		u.Fns = append(u.Fns,
			impl.Fn{Params: 1, Vars: names(3), Ups: []impl.Up{local(0), local(0)}, Nodes: nodesOf(block(
				let(1), giveBack(closure(2).marked(&at))))},
			plain(outer(0), local(0), c.up),
		)
		if c.fits {
			valid(t, fmt.Sprint(c.up), u)
		} else {
			want(t, fmt.Sprint(c.up), u, impl.Fault{Code: 8, Fn: 1, Node: at})
		}
	}
	u := text(0, do(closure(1)))
	u.Fns = append(u.Fns, plain(outer(0)))
	want(t, "an up of the text, which has none", u, impl.Fault{Code: 8})
}
