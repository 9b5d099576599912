package tests

import (
	"fmt"
	"strings"
	"testing"

	"loop.example/draft/impl"
)

// tree is a node with its kids in it; mark, if there is one, gets the place that the node has in its fn. With twice its first kid is one twice.
type tree struct {
	node  impl.Node
	kids  []tree
	mark  *int
	twice bool
}

func expr(kind int, kids ...tree) tree {
	return tree{node: impl.Node{Kind: kind}, kids: kids}
}

func stmt(kind int, kids ...tree) tree {
	return tree{node: impl.Node{Kind: kind, Line: 7}, kids: kids}
}

func (x tree) refs(refs ...int) tree {
	x.node.Refs = refs
	return x
}

func (x tree) num(num int64) tree {
	x.node.Num = num
	return x
}

func (x tree) op(op int) tree {
	x.node.Op = op
	return x
}

func (x tree) marked(mark *int) tree {
	x.mark = mark
	return x
}

func block(kids ...tree) tree    { return stmt(impl.NBlock, kids...) }
func none() tree                 { return expr(impl.NNil) }
func one() tree                  { return expr(impl.NInt).num(1) }
func variable(v int) tree        { return expr(impl.NVar).refs(v) }
func closure(g int) tree         { return expr(impl.NFn).refs(g) }
func call(kids ...tree) tree     { return expr(impl.NCall, kids...) }
func do(kids ...tree) tree       { return stmt(impl.NDo, call(kids...)) }
func giveBack(kids ...tree) tree { return stmt(impl.NReturn, kids...) }
func while(kids ...tree) tree    { return stmt(impl.NWhile, none(), block(kids...)) }

func let(v int, kids ...tree) tree { return stmt(impl.NLet, kids...).refs(v) }

// flatten puts the nodes of a tree behind those that are there, kids ahead of their parent, and answers its place.
func flatten(nodes *[]impl.Node, x tree) int {
	node := x.node
	for _, kid := range x.kids {
		node.Kids = append(node.Kids, flatten(nodes, kid))
	}
	if x.twice {
		node.Kids = append(node.Kids, node.Kids[0])
	}
	*nodes = append(*nodes, node)
	if x.mark != nil {
		*x.mark = len(*nodes) - 1
	}
	return len(*nodes) - 1
}

func nodesOf(body tree) []impl.Node {
	var nodes []impl.Node
	flatten(&nodes, body)
	return nodes
}

// names gives so many names of variables.
func names(many int) []string {
	var out []string
	for i := range many {
		out = append(out, fmt.Sprintf("v%d", i))
	}
	return out
}

// text is a unit of one fn with so many variables.
func text(vars int, kids ...tree) impl.Unit {
	return impl.Unit{Fns: []impl.Fn{{Name: "text", Vars: names(vars), Nodes: nodesOf(block(kids...))}}}
}

// plain is a fn that closes over these and does nothing.
func plain(ups ...impl.Up) impl.Fn {
	return impl.Fn{Name: "plain", Ups: ups, Nodes: nodesOf(block())}
}

func local(index int) impl.Up { return impl.Up{Local: true, Index: index} }
func outer(index int) impl.Up { return impl.Up{Index: index} }

// show writes a unit out, so that two can be held against each other, NaNs too.
func show(u impl.Unit) string { return fmt.Sprintf("%#v", u) }

// check asks twice, and sees to it that neither the answer nor the unit changes, and that the plans of the unit and its code are as they have to be in any.
func check(t *testing.T, u impl.Unit) impl.Fault {
	t.Helper()
	before := show(u)
	got := impl.CheckUnit(u)
	if again := impl.CheckUnit(u); again != got {
		t.Errorf("two answers: %v, then %v", got, again)
	}
	planned(t, u, got)
	sound(t, u, impl.Compile(u))
	if show(u) != before {
		t.Errorf("the unit was changed")
	}
	return got
}

func want(t *testing.T, what string, u impl.Unit, fault impl.Fault) {
	t.Helper()
	if got := check(t, u); got != fault {
		t.Errorf("%s: got %v, want %v", what, got, fault)
	}
}

func valid(t *testing.T, what string, u impl.Unit) {
	t.Helper()
	want(t, what, u, impl.Fault{})
}

func longText(bytes int) string { return strings.Repeat("x", bytes) }

var allKinds = []int{
	impl.NBlock, impl.NLet, impl.NSet, impl.NDo, impl.NIf, impl.NWhile, impl.NFor, impl.NEach, impl.NBreak, impl.NNext,
	impl.NReturn, impl.NTry, impl.NThrow, impl.NDefer,
	impl.NNil, impl.NTrue, impl.NFalse, impl.NInt, impl.NFlt, impl.NStr, impl.NVar, impl.NUp, impl.NBuiltin, impl.NAnd,
	impl.NOr, impl.NUnary, impl.NBinary, impl.NIndex, impl.NCall, impl.NTable, impl.NFn, impl.NRest, impl.NOne,
}

// world is a unit in the making. Its fn 1 has all that a node may ask for: a parameter (variable 0), an up, Rest, and a loop around it.
type world struct {
	vars int
	made []impl.Fn
}

func (w *world) newVar() int {
	w.vars++
	return w.vars
}

func (w *world) newFn() int {
	w.made = append(w.made, plain(local(0), outer(0)))
	return len(w.made) + 1
}

// sample is a valid tree of this Kind; what it declares and makes is new in each.
func (w *world) sample(kind int) tree {
	switch kind {
	case impl.NBlock, impl.NBreak, impl.NNext, impl.NReturn:
		return stmt(kind)
	case impl.NLet:
		return stmt(kind, none()).refs(w.newVar())
	case impl.NSet:
		return stmt(kind, variable(0), none()).num(1)
	case impl.NDo, impl.NDefer:
		return stmt(kind, call(none()))
	case impl.NIf, impl.NWhile:
		return stmt(kind, none(), block())
	case impl.NFor:
		return stmt(kind, none(), none(), none(), block()).refs(w.newVar())
	case impl.NEach:
		return stmt(kind, none(), block()).refs(w.newVar())
	case impl.NTry:
		return stmt(kind, block(), block()).refs(w.newVar(), w.newVar())
	case impl.NThrow:
		return stmt(kind, none())
	case impl.NVar, impl.NUp:
		return expr(kind).refs(0)
	case impl.NAnd, impl.NOr, impl.NIndex:
		return expr(kind, none(), none())
	case impl.NUnary:
		return expr(kind, none()).op(impl.OpNeg)
	case impl.NBinary:
		return expr(kind, none(), none()).op(impl.OpAdd)
	case impl.NCall:
		return call(none())
	case impl.NFn:
		return closure(w.newFn())
	case impl.NOne:
		return expr(kind, call(none()))
	}
	return expr(kind)
}

func isStatement(kind int) bool { return kind <= impl.NDefer }

// around is the unit in which x stands, an expression or a statement.
func (w *world) around(x tree) impl.Unit {
	if !isStatement(x.node.Kind) {
		x = giveBack(x)
	}
	u := text(1, let(0, none()), do(closure(1)))
	u.Fns = append(u.Fns, impl.Fn{
		Name: "around", Line: 3, Params: 1, Rest: true, Vars: names(w.vars + 1), Ups: []impl.Up{local(0)},
		Nodes: nodesOf(block(while(x))),
	})
	u.Fns = append(u.Fns, w.made...)
	return u
}
