package tests

import (
	"fmt"
	"slices"
	"testing"

	"loop.example/draft/impl"
)

// withFns is the unit with these fns behind its own.
func withFns(u impl.Unit, fns ...impl.Fn) impl.Unit {
	u.Fns = append(u.Fns, fns...)
	return u
}

func TestCapturedByHowMany(t *testing.T) {
	wantCaptured(t, "no variables", text(0), 0)
	wantCaptured(t, "no fn", text(3, let(0), let(1)), 0)
	wantCaptured(t, "a fn that closes over nothing", withFns(text(2, let(0), do(closure(1))), plain()), 0)
	wantCaptured(t, "by one", withFns(text(3, let(0), let(1), let(2), do(closure(1))), plain(local(1))), 0, 1)
	wantCaptured(t, "several by one", withFns(text(4, let(0), let(1), let(2), do(closure(1))), plain(local(2), local(0))), 0, 0, 2)
	wantCaptured(t, "twice by one", withFns(text(2, let(0), let(1), do(closure(1))), plain(local(1), local(1))), 0, 1)
	wantCaptured(t, "one by several",
		withFns(text(2, let(0), let(1), do(closure(1)), do(closure(2)), do(closure(3))), plain(local(1)), plain(local(1)), plain(local(1))), 0, 1)
	wantCaptured(t, "another by each",
		withFns(text(4, let(0), let(1), let(2), do(closure(2), closure(1)), do(closure(3))), plain(local(0)), plain(), plain(local(2))), 0, 0, 2)
	wantCaptured(t, "all", withFns(text(2, let(0), let(1), do(closure(1))), plain(local(0), local(1))), 0, 0, 1)
	wantCaptured(t, "an up that is never used counts",
		withFns(text(1, let(0), do(closure(1))), impl.Fn{Vars: names(1), Ups: []impl.Up{local(0)}, Nodes: nodesOf(block(let(0, none())))}), 0, 0)
	wantCaptured(t, "a let of itself cannot be; one that is set later can",
		withFns(text(1, let(0), stmt(impl.NSet, variable(0), closure(1)).num(1)), plain(local(0))), 0, 0)
	wantCaptured(t, "read and written, not closed over",
		text(2, let(0, none()), let(1, variable(0)), stmt(impl.NSet, variable(0), variable(1)).num(1)), 0)
}

// spots are places in which a NFn can stand; variable 0 is in scope in all of them, and 1 to 4 are the spot's own.
var spots = []struct {
	what string
	put  func(made tree) tree
}{
	{"a let", func(made tree) tree { return let(1, made) }},
	{"a let of several", func(made tree) tree { return stmt(impl.NLet, none(), made).refs(1, 2) }},
	{"a set", func(made tree) tree { return stmt(impl.NSet, variable(0), made).num(1) }},
	{"a target's first part", func(made tree) tree { return stmt(impl.NSet, expr(impl.NIndex, made, one()), one()).num(1) }},
	{"a target's second part", func(made tree) tree { return stmt(impl.NSet, expr(impl.NIndex, one(), made), one()).num(1) }},
	{"a call", func(made tree) tree { return do(made) }},
	{"an argument", func(made tree) tree { return do(one(), one(), made) }},
	{"an argument of an argument", func(made tree) tree { return do(one(), call(one(), call(one(), made, one())), one()) }},
	{"a condition", func(made tree) tree { return stmt(impl.NIf, made, block()) }},
	{"a block of an if", func(made tree) tree { return stmt(impl.NIf, one(), block(do(made))) }},
	{"an else", func(made tree) tree { return stmt(impl.NIf, one(), block(), block(do(made))) }},
	{"a condition behind an else", func(made tree) tree { return stmt(impl.NIf, one(), block(), stmt(impl.NIf, made, block())) }},
	{"a condition of a loop", func(made tree) tree { return stmt(impl.NWhile, made, block()) }},
	{"a loop", func(made tree) tree { return while(do(made)) }},
	{"where a for begins", func(made tree) tree { return stmt(impl.NFor, made, one(), one(), block()).refs(1) }},
	{"where a for ends", func(made tree) tree { return stmt(impl.NFor, one(), made, one(), block()).refs(1) }},
	{"the step of a for", func(made tree) tree { return stmt(impl.NFor, one(), one(), made, block()).refs(1) }},
	{"a for", func(made tree) tree { return stmt(impl.NFor, one(), one(), one(), block(do(made))).refs(1) }},
	{"what is gone through", func(made tree) tree { return stmt(impl.NEach, made, block()).refs(1) }},
	{"an each", func(made tree) tree { return stmt(impl.NEach, one(), block(do(made))).refs(1, 2, 3, 4) }},
	{"a try", func(made tree) tree { return stmt(impl.NTry, block(do(made)), block()).refs(1, 2) }},
	{"a catch", func(made tree) tree { return stmt(impl.NTry, block(), block(do(made))).refs(1, 2) }},
	{"a catch in a catch", func(made tree) tree {
		inner := stmt(impl.NTry, block(), block(do(made))).refs(3, 4)
		return stmt(impl.NTry, block(), block(inner)).refs(1, 2)
	}},
	{"what is thrown", func(made tree) tree { return stmt(impl.NThrow, made) }},
	{"a defer", func(made tree) tree { return stmt(impl.NDefer, call(made)) }},
	{"an argument of a defer", func(made tree) tree { return stmt(impl.NDefer, call(one(), made)) }},
	{"what is given back", func(made tree) tree { return giveBack(one(), made) }},
	{"what is never come to", func(made tree) tree { return block(giveBack(), do(made)) }},
	{"an and", func(made tree) tree { return giveBack(expr(impl.NAnd, expr(impl.NFalse), made)) }},
	{"an or", func(made tree) tree { return giveBack(expr(impl.NOr, made, one())) }},
	{"a unary", func(made tree) tree { return giveBack(expr(impl.NUnary, made).op(impl.OpNot)) }},
	{"a binary", func(made tree) tree { return giveBack(expr(impl.NBinary, one(), made).op(impl.OpAdd)) }},
	{"an index", func(made tree) tree { return giveBack(expr(impl.NIndex, one(), made)) }},
	{"a key", func(made tree) tree { return giveBack(expr(impl.NTable, one(), one(), made, one())) }},
	{"a value", func(made tree) tree { return giveBack(expr(impl.NTable, one(), made, one(), one())) }},
	{"the last call of a table", func(made tree) tree { return giveBack(expr(impl.NTable, one(), call(made)).op(1)) }},
	{"one of many", func(made tree) tree { return giveBack(expr(impl.NOne, call(one(), made))) }},
	{"a block", func(made tree) tree { return block(block(do(made))) }},
}

func TestCapturedWhereverTheFnStands(t *testing.T) {
	for _, spot := range spots {
		u := withFns(text(6, let(0), spot.put(closure(1)), let(5)), plain(local(0)))
		wantCaptured(t, spot.what, u, 0, 0)
		u = withFns(text(6, let(0), spot.put(closure(1)), let(5)), plain())
		wantCaptured(t, spot.what+", nothing closed over", u, 0)
		u = withFns(text(6, let(0), let(5), spot.put(closure(2)), do(closure(1))), plain(local(5)), plain(local(0), local(5)))
		wantCaptured(t, spot.what+", and two more", u, 0, 0, 5)
	}
}

// As deep as a unit lets a node stand.
func TestCapturedFromTheDepth(t *testing.T) {
	deep := closure(1)
	for range impl.MaxNest - 2 {
		deep = expr(impl.NUnary, deep).op(impl.OpNot)
	}
	wantCaptured(t, "deep in an expression", withFns(text(2, let(0), let(1), giveBack(deep)), plain(local(1))), 0, 1)
	x := do(closure(1))
	for range impl.MaxNest - 3 {
		x = block(x)
	}
	wantCaptured(t, "deep in blocks", withFns(text(2, let(0), let(1), x), plain(local(0))), 0, 0)
}

// Each sort of variable that there is, closed over alone.
func TestCapturedVariablesOfEachSort(t *testing.T) {
	body := func() tree {
		return block(
			let(2), stmt(impl.NLet).refs(3, 4), stmt(impl.NLet, one(), one()).refs(5, 6),
			stmt(impl.NFor, one(), one(), one(), block(
				stmt(impl.NEach, one(), block(
					stmt(impl.NTry, block(), block(
						do(closure(2)),
					)).refs(12, 13),
				)).refs(8, 9, 10, 11),
			)).refs(7),
		)
	}
	const vars = 14
	for v := range vars {
		for w := range vars {
			u := withFns(text(0, do(closure(1))),
				impl.Fn{Params: 2, Vars: names(vars + 1), Nodes: nodesOf(body())}, plain(local(v), local(w)))
			wantCaptured(t, fmt.Sprint("variables ", v, " and ", w), u, 1, v, w)
			wantCaptured(t, "the text around", u, 0)
			wantCaptured(t, "the fn that closes over them", u, 2)
		}
	}
}

// A fn in a fn closes over what the one around it has closed over: that is no variable of that one.
func TestCapturedThroughFns(t *testing.T) {
	u := withFns(text(2, let(0), let(1), do(closure(1))),
		impl.Fn{Params: 2, Vars: names(3), Ups: []impl.Up{local(1), local(0)}, Nodes: nodesOf(block(let(2), do(closure(2))))},
		impl.Fn{Params: 1, Vars: names(2), Ups: []impl.Up{outer(0), local(2), outer(1)}, Nodes: nodesOf(block(do(closure(3))))},
		plain(outer(0), outer(1), outer(2), local(0)),
	)
	wantCaptured(t, "the text", u, 0, 0, 1)
	wantCaptured(t, "the first fn", u, 1, 2)
	wantCaptured(t, "the second fn", u, 2, 0)
	wantCaptured(t, "the third fn", u, 3)

	u = withFns(text(2, let(0), let(1), do(closure(1))),
		impl.Fn{Vars: names(2), Ups: []impl.Up{local(0)}, Nodes: nodesOf(block(let(0), let(1), do(closure(2))))},
		plain(outer(0)),
	)
	wantCaptured(t, "an up of the fn around", u, 0, 0)
	wantCaptured(t, "an up of the same number as a variable", u, 1)
}

// The variables of two fns that have one number are two, whichever of them is closed over.
func TestCapturedGoesByFn(t *testing.T) {
	fn := func(made int, ups ...impl.Up) impl.Fn {
		return impl.Fn{Vars: names(2), Ups: ups, Nodes: nodesOf(block(let(0), let(1), do(closure(made))))}
	}
	u := withFns(text(2, let(0), let(1), do(closure(1), closure(2))), fn(3), fn(4, local(1)), plain(local(0)), plain(local(1)))
	wantCaptured(t, "the text", u, 0, 1)
	wantCaptured(t, "fn 1", u, 1, 0)
	wantCaptured(t, "fn 2", u, 2, 1)
	wantCaptured(t, "fn 3", u, 3)
	wantCaptured(t, "fn 4", u, 4)
}

func TestCapturedHasOneElementEach(t *testing.T) {
	for _, vars := range []int{1, 2, 7, impl.MaxVars} {
		u := withFns(text(vars, let(0), do(closure(1))), plain(local(0)))
		wantCaptured(t, fmt.Sprint("one of ", vars, " is declared"), u, 0, 0)
		u = withFns(text(vars, let(vars-1), do(closure(1))), plain(local(vars-1)))
		wantCaptured(t, fmt.Sprint("the last of ", vars, " is declared"), u, 0, vars-1)
		wantCaptured(t, fmt.Sprint("none of ", vars, " is declared"), text(vars), 0)
	}
	u := text(impl.MaxVars, do(closure(1)))
	fn := impl.Fn{Params: impl.MaxVars, Vars: names(impl.MaxVars), Nodes: nodesOf(block(do(closure(2))))}
	var ups []impl.Up
	for v := range impl.MaxVars {
		if v%3 == 0 {
			ups = append(ups, local(v))
		}
	}
	u = withFns(u, fn, plain(ups...))
	got := captured(t, u, 1)
	for v := range impl.MaxVars {
		if got[v] != (v%3 == 0) {
			t.Errorf("parameter %d: %v", v, got[v])
		}
	}
	if slices.Contains(captured(t, u, 0), true) {
		t.Error("a variable of the text is closed over")
	}
}
