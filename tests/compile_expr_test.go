package tests

import (
	"fmt"
	"math"
	"testing"

	"loop.example/draft/impl"
)

func rest() tree                   { return expr(impl.NRest) }
func only(x tree) tree             { return expr(impl.NOne, x) }
func number(n int64) tree          { return expr(impl.NInt).num(n) }
func table(kids ...tree) tree      { return expr(impl.NTable, kids...) }
func tableAll(kids ...tree) tree   { return table(kids...).op(1) }
func index(x, y tree) tree         { return expr(impl.NIndex, x, y) }
func both(x, y tree) tree          { return expr(impl.NAnd, x, y) }
func either(x, y tree) tree        { return expr(impl.NOr, x, y) }
func plus(x, y tree) tree          { return expr(impl.NBinary, x, y).op(impl.OpAdd) }
func negated(x tree) tree          { return expr(impl.NUnary, x).op(impl.OpNeg) }
func throwing(x tree) tree         { return stmt(impl.NThrow, x) }
func deferred(kids ...tree) tree   { return stmt(impl.NDefer, call(kids...)) }
func up(place int) tree            { return expr(impl.NUp).refs(place) }
func float(x float64) (out tree)   { out = expr(impl.NFlt); out.node.Flt = x; return out }
func textNode(s string) (x tree)   { x = expr(impl.NStr); x.node.Str = s; return x }
func set(n int, kids ...tree) tree { return stmt(impl.NSet, kids...).num(int64(n)) }

// wantOne asks that One of an expression is this listing.
func wantOne(t *testing.T, what string, x tree, listing string) {
	t.Helper()
	becomes(t, what, 0, nil, "Line 7\n"+listing+"\nThrow ~r", throwing(x))
}

func TestCompileConstants(t *testing.T) {
	wantOne(t, "nil", none(), "Const r #nil")
	wantOne(t, "true", expr(impl.NTrue), "Const r #true")
	wantOne(t, "false", expr(impl.NFalse), "Const r #false")
	for _, n := range []int64{0, 1, -1, 5, math.MaxInt64, math.MinInt64} {
		wantOne(t, "an int", number(n), fmt.Sprint("Const r #i", n))
	}
	for _, x := range []float64{0, math.Copysign(0, -1), 1, 0.5, -2.25, math.Inf(1), math.Inf(-1), math.MaxFloat64, math.SmallestNonzeroFloat64} {
		wantOne(t, "a float", float(x), fmt.Sprint("Const r #f", x))
	}
	for _, s := range []string{"", "a", "nil", "\x00\xff", longText(impl.MaxStr)} {
		wantOne(t, "a str", textNode(s), "Const r #s"+s)
	}
	for b := range int64(impl.Builtins) {
		wantOne(t, "a builtin", expr(impl.NBuiltin).num(b), fmt.Sprint("Const r #b", b))
	}
}

// A node that is no float may have a zero with a sign in its Flt; a const may not.
func TestCompileConstantsTakeNoSignOver(t *testing.T) {
	minus := math.Copysign(0, -1)
	for _, x := range []tree{none(), expr(impl.NTrue), expr(impl.NFalse), number(3), textNode("a"), expr(impl.NBuiltin).num(2)} {
		plain := x
		x.node.Flt = minus
		p := wantIns(t, "both signs", text(0, giveBack(x, plain)), 0, "Line 7; List r; Const r+1 0; Add r ~r+1; Const r+1 0; Add r ~r+1; Return ~r")
		if len(p.Consts) != 1 || math.Signbit(p.Consts[0].Flt) || p.Consts[0].Flt != 0 {
			t.Errorf("kind %d: consts are %v", x.node.Kind, p.Consts)
		}
	}
	p := wantIns(t, "a float keeps it", text(0, throwing(float(minus))), 0, "Line 7; Const r #f-0; Throw ~r")
	if !math.Signbit(p.Consts[0].Flt) {
		t.Error("the sign is lost")
	}
}

func TestCompileVariables(t *testing.T) {
	becomes(t, "one that is not captured", 1, nil, "Line 7; Const r #i1; Line 7; Move r+1 r; Throw ~r+1; Drop r", let(0, one()), throwing(variable(0)))
	becomes(t, "one that is captured", 1, []impl.Fn{plain(local(0))},
		"Line 7; Const r #i1; Box r ~r\n"+doing(1, 1)+"Line 7; Get r+1 r; Throw ~r+1; Drop r",
		let(0, one()), do(closure(1)), throwing(variable(0)))
	becomes(t, "one of two that is captured", 2, []impl.Fn{plain(local(1))},
		"Line 7; Const r #i1; Line 7; Const r+1 #nil; Box r+1 ~r+1\n"+doing(1, 2)+
			"Line 7; Move r+2 r; Get r+3 r+1; Binary r+2 1 ~r+2 ~r+3; Throw ~r+2; Drop r; Drop r+1",
		let(0, one()), let(1, none()), do(closure(1)), throwing(plus(variable(0), variable(1))))
	becomes(t, "ahead of the fn that captures it", 1, []impl.Fn{plain(local(0))},
		"Line 7; Const r #nil; Box r ~r; Line 7; Get r+1 r; Throw ~r+1\n"+doing(1, 1)+"Drop r",
		let(0), throwing(variable(0)), do(closure(1)))
}

// inFn is a unit whose fn 1 has these parameters and statements, and closes over the two variables of the text.
func inFn(params, vars int, rest bool, fns []impl.Fn, kids ...tree) impl.Unit {
	u := text(2, lets(0, 1), do(closure(1)))
	return withFns(withFns(u, impl.Fn{
		Name: "inner", Line: 4, Params: params, Rest: rest, Vars: names(params + vars), Ups: []impl.Up{local(1), local(0)}, Nodes: nodesOf(block(kids...)),
	}), fns...)
}

func TestCompileUps(t *testing.T) {
	wantIns(t, "the first", inFn(0, 0, false, nil, throwing(up(0))), 1, "Line 7; UpGet r 0; Throw ~r")
	wantIns(t, "the second", inFn(2, 0, true, nil, throwing(up(1))), 1, "Line 7; UpGet r 1; Throw ~r")
	wantIns(t, "both", inFn(1, 0, false, nil, throwing(plus(up(1), up(0)))), 1, "Line 7; UpGet r 1; UpGet r+1 0; Binary r 1 ~r ~r+1; Throw ~r")
	wantIns(t, "the text that is closed over", inFn(0, 0, false, nil), 0,
		"Line 7; Const r #nil; Const r+1 #nil; Box r ~r; Box r+1 ~r+1\n"+doing(1, 2)+"Drop r; Drop r+1")
}

func TestCompileParameters(t *testing.T) {
	wantIns(t, "read", inFn(2, 0, false, nil, throwing(plus(variable(1), variable(0)))), 1,
		"Line 7; Move 2 1; Move 3 0; Binary 2 1 ~2 ~3; Throw ~2")
	wantIns(t, "one captured", inFn(3, 0, true, []impl.Fn{plain(local(1))}, do(closure(2)), throwing(plus(variable(1), variable(0)))), 1,
		"Box 1 ~1\n"+doing(2, 0)+"Line 7; Get r 1; Move r+1 0; Binary r 1 ~r ~r+1; Throw ~r")
	wantIns(t, "all captured, in their order", inFn(3, 1, true, []impl.Fn{plain(local(2), local(0)), plain(local(1))}, do(closure(2)), let(3, closure(3))), 1,
		"Box 0 ~0; Box 1 ~1; Box 2 ~2\n"+doing(2, 0)+"Line 7; Fn r 3; Drop r")
	wantIns(t, "captured by a fn in what is never reached", inFn(1, 0, false, []impl.Fn{plain(local(0))}, giveBack(), do(closure(2))), 1,
		"Box 0 ~0; Line 7; List r; Return ~r\n"+doing(2, 0))
	wantIns(t, "captured and with a defer", inFn(1, 0, false, []impl.Fn{plain(local(0))}, deferred(closure(2))), 1,
		"Box 0 ~0; Scope r; Line 7; Fn r 2; List r+1; Defer ~r ~r+1; Leave")
}

func TestCompileRest(t *testing.T) {
	for params := range 4 {
		one, many := fmt.Sprintf("Pick r %d 0", params), fmt.Sprintf("Copy r %d", params)
		what := fmt.Sprint(params, " parameters")
		wantIns(t, what+", One", inFn(params, 0, true, nil, throwing(rest())), 1, "Line 7; "+one+"; Throw ~r")
		wantIns(t, what+", one of Many", inFn(params, 0, true, nil, throwing(only(rest()))), 1, "Line 7; "+many+"; First r ~r; Throw ~r")
		wantIns(t, what+", returned", inFn(params, 0, true, nil, giveBack(rest())), 1,
			fmt.Sprintf("Line 7; List r; Copy r+1 %d; Join r ~r+1; Return ~r", params))
		wantIns(t, what+", behind a variable", inFn(params, 1, true, nil, let(params, rest()), throwing(rest())), 1,
			fmt.Sprintf("Line 7; %s; Line 7; Pick r+1 %d 0; Throw ~r+1; Drop r", one, params))
	}
	wantOne(t, "in the text", rest(), "Pick r 0 0")
	wantOne(t, "one in the text", only(rest()), "Copy r 0; First r ~r")
}

func TestCompileFns(t *testing.T) {
	becomes(t, "two", 0, []impl.Fn{plain(), plain()}, "Line 7; Fn r 2; Fn r+1 1; Index r ~r ~r+1; Throw ~r", throwing(index(closure(2), closure(1))))
}

func TestCompileChoices(t *testing.T) {
	a, b, c, d := number(1), number(2), number(3), number(4)
	wantOne(t, "and", both(a, b), "Const r #i1; Unless r end; Drop r; Const r #i2; end:")
	wantOne(t, "or", either(a, b), "Const r #i1; If r end; Drop r; Const r #i2; end:")
	wantOne(t, "and in the first of or", either(both(a, b), c),
		"Const r #i1; Unless r in; Drop r; Const r #i2; in: If r end; Drop r; Const r #i3; end:")
	wantOne(t, "and in the second of or", either(a, both(b, c)),
		"Const r #i1; If r end; Drop r; Const r #i2; Unless r end; Drop r; Const r #i3; end:")
	wantOne(t, "or in the first of and", both(either(a, b), c),
		"Const r #i1; If r in; Drop r; Const r #i2; in: Unless r end; Drop r; Const r #i3; end:")
	wantOne(t, "or in the second of and", both(a, either(b, c)),
		"Const r #i1; Unless r end; Drop r; Const r #i2; If r end; Drop r; Const r #i3; end:")
	wantOne(t, "and in and", both(both(a, b), both(c, d)),
		"Const r #i1; Unless r in; Drop r; Const r #i2; in: Unless r end; Drop r; Const r #i3; Unless r end; Drop r; Const r #i4; end:")
	wantOne(t, "or in or", either(either(a, b), either(c, d)),
		"Const r #i1; If r in; Drop r; Const r #i2; in: If r end; Drop r; Const r #i3; If r end; Drop r; Const r #i4; end:")
	wantOne(t, "and in an operation", plus(a, both(b, c)),
		"Const r #i1; Const r+1 #i2; Unless r+1 end; Drop r+1; Const r+1 #i3; end: Binary r 1 ~r ~r+1")
	wantOne(t, "an operation in or", either(plus(a, b), plus(c, d)),
		"Const r #i1; Const r+1 #i2; Binary r 1 ~r ~r+1; If r end; Drop r; Const r #i3; Const r+1 #i4; Binary r 1 ~r ~r+1; end:")
	wantOne(t, "calls in and", both(call(a), call(b)),
		"Const r #i1; List r+1; Call r ~r ~r+1; First r ~r; Unless r end; Drop r; Const r #i2; List r+1; Call r ~r ~r+1; First r ~r; end:")
}

func TestCompileOperations(t *testing.T) {
	a, b, c, d := number(1), number(2), number(3), number(4)
	for op := impl.OpNeg; op <= impl.OpLen; op++ {
		wantOne(t, fmt.Sprint("unary ", op), expr(impl.NUnary, a).op(op), fmt.Sprintf("Const r #i1; Unary r %d ~r", op))
	}
	for op := impl.OpAdd; op <= impl.OpGe; op++ {
		wantOne(t, fmt.Sprint("binary ", op), expr(impl.NBinary, a, b).op(op), fmt.Sprintf("Const r #i1; Const r+1 #i2; Binary r %d ~r ~r+1", op))
	}
	wantOne(t, "unary in unary", negated(negated(a)), "Const r #i1; Unary r 19 ~r; Unary r 19 ~r")
	wantOne(t, "to the left", plus(plus(plus(a, b), c), d),
		"Const r #i1; Const r+1 #i2; Binary r 1 ~r ~r+1; Const r+1 #i3; Binary r 1 ~r ~r+1; Const r+1 #i4; Binary r 1 ~r ~r+1")
	wantOne(t, "to the right", plus(a, plus(b, plus(c, d))),
		"Const r #i1; Const r+1 #i2; Const r+2 #i3; Const r+3 #i4; Binary r+2 1 ~r+2 ~r+3; Binary r+1 1 ~r+1 ~r+2; Binary r 1 ~r ~r+1")
	wantOne(t, "to both sides", plus(plus(a, b), plus(c, d)),
		"Const r #i1; Const r+1 #i2; Binary r 1 ~r ~r+1; Const r+1 #i3; Const r+2 #i4; Binary r+1 1 ~r+1 ~r+2; Binary r 1 ~r ~r+1")
	wantOne(t, "index", index(a, b), "Const r #i1; Const r+1 #i2; Index r ~r ~r+1")
	wantOne(t, "index of index", index(index(a, b), index(c, d)),
		"Const r #i1; Const r+1 #i2; Index r ~r ~r+1; Const r+1 #i3; Const r+2 #i4; Index r+1 ~r+1 ~r+2; Index r ~r ~r+1")
	wantOne(t, "of a call and a rest", index(call(a), rest()), "Const r #i1; List r+1; Call r ~r ~r+1; First r ~r; Pick r+1 0 0; Index r ~r ~r+1")
}

func TestCompileCalls(t *testing.T) {
	f, a, b, c := number(9), number(1), number(2), number(3)
	wantOne(t, "no arguments", call(f), "Const r #i9; List r+1; Call r ~r ~r+1; First r ~r")
	wantOne(t, "one", call(f, a), "Const r #i9; List r+1; Const r+2 #i1; Add r+1 ~r+2; Call r ~r ~r+1; First r ~r")
	wantOne(t, "several", call(f, a, b, c),
		"Const r #i9; List r+1; Const r+2 #i1; Add r+1 ~r+2; Const r+2 #i2; Add r+1 ~r+2; Const r+2 #i3; Add r+1 ~r+2; Call r ~r ~r+1; First r ~r")
	inner := "Const r+2 #i1; List r+3; Const r+4 #i2; Add r+3 ~r+4; Call r+2 ~r+2 ~r+3\n"
	wantOne(t, "a call last", call(f, call(a, b)), "Const r #i9; List r+1\n"+inner+"Join r+1 ~r+2; Call r ~r ~r+1; First r ~r")
	wantOne(t, "a call first", call(f, call(a, b), c),
		"Const r #i9; List r+1\n"+inner+"First r+2 ~r+2; Add r+1 ~r+2; Const r+2 #i3; Add r+1 ~r+2; Call r ~r ~r+1; First r ~r")
	wantOne(t, "calls first and last", call(f, call(a, b), call(a, b)),
		"Const r #i9; List r+1\n"+inner+"First r+2 ~r+2; Add r+1 ~r+2\n"+inner+"Join r+1 ~r+2; Call r ~r ~r+1; First r ~r")
	wantOne(t, "one of a call last", call(f, only(call(a, b))), "Const r #i9; List r+1\n"+inner+"First r+2 ~r+2; Add r+1 ~r+2; Call r ~r ~r+1; First r ~r")
	wantOne(t, "a rest last", call(f, a, rest()), "Const r #i9; List r+1; Const r+2 #i1; Add r+1 ~r+2; Copy r+2 0; Join r+1 ~r+2; Call r ~r ~r+1; First r ~r")
	wantOne(t, "a rest first", call(f, rest(), a), "Const r #i9; List r+1; Pick r+2 0 0; Add r+1 ~r+2; Const r+2 #i1; Add r+1 ~r+2; Call r ~r ~r+1; First r ~r")
	wantOne(t, "rests first and last", call(f, rest(), rest()), "Const r #i9; List r+1; Pick r+2 0 0; Add r+1 ~r+2; Copy r+2 0; Join r+1 ~r+2; Call r ~r ~r+1; First r ~r")
	wantOne(t, "one of a rest last", call(f, only(rest())), "Const r #i9; List r+1; Copy r+2 0; First r+2 ~r+2; Add r+1 ~r+2; Call r ~r ~r+1; First r ~r")
	wantOne(t, "what a call gives is called", call(call(f), a),
		"Const r #i9; List r+1; Call r ~r ~r+1; First r ~r; List r+1; Const r+2 #i1; Add r+1 ~r+2; Call r ~r ~r+1; First r ~r")
	wantOne(t, "what a rest gives is called", call(rest(), rest()), "Pick r 0 0; List r+1; Copy r+2 0; Join r+1 ~r+2; Call r ~r ~r+1; First r ~r")
	wantOne(t, "one of a call", only(call(f, a)), "Const r #i9; List r+1; Const r+2 #i1; Add r+1 ~r+2; Call r ~r ~r+1; First r ~r")
	wantOne(t, "a choice last", call(f, both(a, call(b))),
		"Const r #i9; List r+1; Const r+2 #i1; Unless r+2 end; Drop r+2; Const r+2 #i2; List r+3; Call r+2 ~r+2 ~r+3; First r+2 ~r+2; end: Add r+1 ~r+2; Call r ~r ~r+1; First r ~r")
}

func TestCompileTables(t *testing.T) {
	k, v, l, w := number(1), number(2), number(3), number(4)
	pair := "Const r+1 #i1; Const r+2 #i2; Raw r ~r+1 ~r+2\n"
	wantOne(t, "empty", table(), "Table r")
	wantOne(t, "one pair", table(k, v), "Table r\n"+pair)
	wantOne(t, "two pairs", table(k, v, l, w), "Table r\n"+pair+"Const r+1 #i3; Const r+2 #i4; Raw r ~r+1 ~r+2")
	wantOne(t, "a call last", table(k, call(v)), "Table r; Const r+1 #i1; Const r+2 #i2; List r+3; Call r+2 ~r+2 ~r+3; First r+2 ~r+2; Raw r ~r+1 ~r+2")
	wantOne(t, "a rest last", table(k, rest()), "Table r; Const r+1 #i1; Pick r+2 0 0; Raw r ~r+1 ~r+2")
	wantOne(t, "all of a call", tableAll(k, call(v)), "Table r; Const r+1 #i1; Const r+2 #i2; List r+3; Call r+2 ~r+2 ~r+3; RawAll r ~r+1 ~r+2")
	wantOne(t, "all of a rest", tableAll(k, rest()), "Table r; Const r+1 #i1; Copy r+2 0; RawAll r ~r+1 ~r+2")
	wantOne(t, "a pair and all of a rest", tableAll(k, v, l, rest()), "Table r\n"+pair+"Const r+1 #i3; Copy r+2 0; RawAll r ~r+1 ~r+2")
	wantOne(t, "a call first and all of a call", tableAll(k, call(v), l, call(w)),
		"Table r; Const r+1 #i1; Const r+2 #i2; List r+3; Call r+2 ~r+2 ~r+3; First r+2 ~r+2; Raw r ~r+1 ~r+2\n"+
			"Const r+1 #i3; Const r+2 #i4; List r+3; Call r+2 ~r+2 ~r+3; RawAll r ~r+1 ~r+2")
	wantOne(t, "a call as a key", table(call(k), v), "Table r; Const r+1 #i1; List r+2; Call r+1 ~r+1 ~r+2; First r+1 ~r+1; Const r+2 #i2; Raw r ~r+1 ~r+2")
	wantOne(t, "a table in a table", table(k, table(l, w)), "Table r; Const r+1 #i1; Table r+2; Const r+3 #i3; Const r+4 #i4; Raw r+2 ~r+3 ~r+4; Raw r ~r+1 ~r+2")
	wantOne(t, "in an operation", plus(k, tableAll(k, rest())), "Const r #i1; Table r+1; Const r+2 #i1; Copy r+3 0; RawAll r+1 ~r+2 ~r+3; Binary r 1 ~r ~r+1")
}
