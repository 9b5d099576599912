package tests

import (
	"fmt"
	"math"
	"slices"
	"testing"

	"loop.example/draft/impl"
)

func wantConsts(t *testing.T, what string, u impl.Unit, f int, want ...string) {
	t.Helper()
	p := made(t, what, u).Protos[f]
	same := len(p.Consts) == len(want)
	for i, x := range p.Consts {
		same = same && sameConst(x, constNamed(want[i])) && x.Ref == 0
	}
	if !same {
		t.Errorf("%s: consts are %v, want %v", what, p.Consts, want)
	}
}

func TestCompileConsts(t *testing.T) {
	minus := math.Copysign(0, -1)
	wantConsts(t, "none", text(0), 0)
	wantConsts(t, "each one once", text(0, giveBack(number(2), number(1), number(2), number(1), number(2))), 0, "i2", "i1")
	wantConsts(t, "zeros with two signs", text(0, giveBack(float(0), float(minus), float(0), float(minus))), 0, "f0", "f-0")
	wantConsts(t, "zeros the other way round", text(0, giveBack(float(minus), float(0), float(minus))), 0, "f-0", "f0")
	wantConsts(t, "an int and a float", text(0, giveBack(number(1), float(1), number(0), float(0))), 0, "i1", "f1", "i0", "f0")
	wantConsts(t, "zeros of all kinds", text(0, giveBack(number(0), expr(impl.NFalse), none(), float(0), textNode(""), expr(impl.NBuiltin))), 0,
		"i0", "false", "nil", "f0", "s", "b0")
	wantConsts(t, "ones of all kinds", text(0, giveBack(number(1), expr(impl.NTrue), float(1), textNode("1"), expr(impl.NBuiltin).num(1))), 0,
		"i1", "true", "f1", "s1", "b1")
	wantConsts(t, "strs", text(0, giveBack(textNode(""), textNode("a"), textNode(""), textNode("b"), textNode("a"), textNode("ab"))), 0, "s", "sa", "sb", "sab")
	wantConsts(t, "far floats", text(0, giveBack(float(math.Inf(1)), float(math.Inf(-1)), float(5e-324), float(-5e-324), float(math.Inf(1)))), 0, "f+Inf", "f-Inf", "f5e-324", "f-5e-324")
	wantConsts(t, "a builtin and an int", text(0, do(expr(impl.NBuiltin).num(3), number(3))), 0, "b3", "i3")
	wantConsts(t, "a nil of a let is a const as well", text(2, let(0, one()), lets(1), giveBack(none())), 0, "i1", "nil")
	wantConsts(t, "in the order in which they are wanted, not in that of the nodes", text(0,
		stmt(impl.NIf, number(1), block(throwing(number(2))), block(throwing(number(3)))),
		giveBack(table(number(4), number(5)), both(number(6), number(1)), call(number(7), number(8)))), 0, "i1", "i2", "i3", "i4", "i5", "i6", "i7", "i8")
	wantConsts(t, "the targets of a set ahead of its values", text(0, set(2, index(number(1), number(2)), index(number(3), number(4)), number(5), number(6))), 0,
		"i1", "i2", "i3", "i4", "i5", "i6")
	wantConsts(t, "in what is never reached too", text(0, giveBack(), giveBack(number(9))), 0, "i9")
	u := text(0, giveBack(number(1), number(2)))
	u.Fns[0].Nodes[2].Kids = []int{1, 0}
	wantConsts(t, "nodes the other way round", u, 0, "i2", "i1")
}

func TestCompileConstsOfEachFn(t *testing.T) {
	u := inFn(0, 0, false, []impl.Fn{plain()}, giveBack(number(2), number(1), closure(2)))
	wantConsts(t, "the text", u, 0, "nil")
	wantConsts(t, "the fn", u, 1, "i2", "i1")
	wantConsts(t, "the fn in it", u, 2)
}

// name is a want of one entry of Named: from the instruction ahead of which label from stands, up to label to.
type name struct {
	v        int
	reg      int
	from, to string
}

// wantNamed asks for the names of fn f, whose instructions are this listing.
func wantNamed(t *testing.T, what string, u impl.Unit, f int, listing string, want ...name) {
	t.Helper()
	for v := range u.Fns[f].Vars {
		u.Fns[f].Vars[v] = fmt.Sprint("name", v)
	}
	p := wantIns(t, what, u, f, listing)
	a := &assembler{consts: p.Consts}
	a.lines(listing + "\nend: List 0; Return ~0; last:")
	var list []impl.Named
	for _, n := range want {
		list = append(list, impl.Named{Name: fmt.Sprint("name", n.v), Reg: n.reg, From: a.labels[n.from], To: a.labels[n.to]})
	}
	if !slices.Equal(p.Named, list) {
		t.Errorf("%s: names are %v, want %v", what, p.Named, list)
	}
}

func TestCompileNamed(t *testing.T) {
	wantNamed(t, "none declared", text(3), 0, "")
	wantNamed(t, "lets, in the order of the Vars", text(4, let(2), let(0, one())), 0,
		"Line 7; Const 0 #nil; a: Line 7; Const 1 #i1; b: Drop 0; Drop 1", name{0, 1, "b", "b"}, name{2, 0, "a", "b"})
	wantNamed(t, "several in one let, behind their boxes", withFns(text(3, lets(1, 0, 2), do(closure(1))), plain(local(0), local(2))), 0,
		"Line 7; Const 0 #nil; Const 1 #nil; Const 2 #nil; Box 1 ~1; Box 2 ~2; a: Line 7; Fn 3 1; List 4; Call 3 ~3 ~4; Drop 3; b: Drop 0; Drop 1; Drop 2",
		name{0, 1, "a", "b"}, name{1, 0, "a", "b"}, name{2, 2, "a", "b"})
	wantNamed(t, "a list of values", text(2, letOf(2, one(), one())), 0,
		"Line 7; List 2; Const 3 #i1; Add 2 ~3; Const 3 #i1; Add 2 ~3; Pick 0 2 0; Pick 1 2 1; Drop 2; a: Drop 0; Drop 1", name{0, 0, "a", "a"}, name{1, 1, "a", "a"})
	wantNamed(t, "a block in a block", text(3, let(0), block(let(1), throwing(one())), let(2)), 0,
		"Line 7; Const 0 #nil; a: Line 7; Const 1 #nil; b: Line 7; Const 2 #i1; Throw ~2; c: Drop 1; Line 7; Const 1 #nil; d: Drop 0; Drop 1",
		name{0, 0, "a", "d"}, name{1, 1, "b", "c"}, name{2, 1, "d", "d"})
	wantNamed(t, "a block with a defer: ahead of the keep, up to behind the leave", text(2, let(0), deferred(one()), let(1)), 0,
		"Scope 0; Line 7; Const 0 #nil; a: Keep 1; Line 7; Const 1 #i1; List 2; Defer ~1 ~2; Line 7; Const 1 #nil; b: Keep 2; Leave; c: Drop 0; Drop 1",
		name{0, 0, "a", "c"}, name{1, 1, "b", "c"})
	wantNamed(t, "behind a return", text(1, giveBack(), let(0)), 0, "Line 7; List 0; Return ~0; Line 7; Const 0 #nil; a: Drop 0", name{0, 0, "a", "a"})
}

func TestCompileNamedOfLoops(t *testing.T) {
	wantNamed(t, "a for", text(2, count(1, let(0))), 0,
		"Line 7; Const 0 #i1; Const 1 #i1; Const 2 #i1; For 0; test: ForTest 0 exit; Tick; Move 3 0; a: Line 7; Const 4 #nil; b: Drop 4; c: Drop 3; At 7; ForNext 0 test; exit: Drop 0; Drop 1; Drop 2",
		name{0, 4, "b", "b"}, name{1, 3, "a", "c"})
	wantNamed(t, "a for, captured", withFns(text(1, count(0, throwing(closure(1)))), plain(local(0))), 0,
		"Line 7; Const 0 #i1; Const 1 #i1; Const 2 #i1; For 0; test: ForTest 0 exit; Tick; Move 3 0; Box 3 ~3; a: Line 7; Fn 4 1; Throw ~4; c: Drop 3; At 7; ForNext 0 test; exit: Drop 0; Drop 1; Drop 2",
		name{0, 3, "a", "c"})
	wantNamed(t, "an each, behind the drop of its list", withFns(text(2, each([]int{1, 0}, throwing(closure(1)))), plain(local(1))), 0,
		"Line 7; Const 0 #i1; Each 0; test: EachNext 0 exit 2; Pick 3 2 0; Box 3 ~3; Pick 4 2 1; Drop 2; a: Line 7; Fn 5 1; Throw ~5; b: Drop 2; Drop 3; Drop 4; At 7; Jump test; exit: Drop 0; Drop 1",
		name{0, 4, "a", "b"}, name{1, 3, "a", "b"})
	wantNamed(t, "a while", text(1, while(let(0))), 0,
		"Line 7; begin: Tick; Const 0 #nil; Unless ~0 exit; Line 7; Const 0 #nil; a: Drop 0; At 7; Jump begin; exit:", name{0, 0, "a", "a"})
	wantNamed(t, "left in its midst", text(2, while(let(0), stmt(impl.NBreak), let(1))), 0,
		"Line 7; begin: Tick; Const 0 #nil; Unless ~0 exit; Line 7; Const 0 #nil; a: Line 7; Drop 0; Jump exit; Line 7; Const 1 #nil; b: Drop 0; Drop 1; At 7; Jump begin; exit:",
		name{0, 0, "a", "b"}, name{1, 1, "b", "b"})
	wantNamed(t, "a loop's body with a defer: the loop's variable is forgotten behind the body's drops", text(2, count(0, let(1), deferred(one()))), 0,
		"Line 7; Const 0 #i1; Const 1 #i1; Const 2 #i1; For 0; test: ForTest 0 exit; Tick; Move 3 0; a: Scope 4; Line 7; Const 4 #nil; b: Keep 5; Line 7; Const 5 #i1; List 6; Defer ~5 ~6; Leave; c: Drop 4; d: Drop 3; At 7; ForNext 0 test; exit: Drop 0; Drop 1; Drop 2",
		name{0, 3, "a", "d"}, name{1, 4, "b", "c"})
}

func TestCompileNamedOfCatches(t *testing.T) {
	wantNamed(t, "a catch", text(4, catch(1, 0, block(let(2)), block(let(3)))), 0,
		"Line 7; Try handler 0; Line 7; Const 0 #nil; a: Drop 0; EndTry; Jump out; handler: b: Line 7; Const 2 #nil; c: Drop 2; d: Drop 0; Drop 1; out:",
		name{0, 1, "b", "d"}, name{1, 0, "b", "d"}, name{2, 0, "a", "a"}, name{3, 2, "c", "c"})
	wantNamed(t, "a catch, captured", withFns(text(2, catch(0, 1, block(), block(throwing(closure(1))))), plain(local(1), local(0))), 0,
		"Line 7; Try handler 0; EndTry; Jump out; handler: Box 0 ~0; Box 1 ~1; b: Line 7; Fn 2 1; Throw ~2; d: Drop 0; Drop 1; out:",
		name{0, 0, "b", "d"}, name{1, 1, "b", "d"})
}

func TestCompileNamedOfParameters(t *testing.T) {
	wantNamed(t, "parameters", inFn(2, 0, true, nil), 1, "begin:", name{0, 0, "begin", "last"}, name{1, 1, "begin", "last"})
	wantNamed(t, "captured ones", inFn(2, 2, false, []impl.Fn{plain(local(1))}, let(3, closure(2))), 1,
		"begin: Box 1 ~1; Line 7; Fn 2 2; a: Drop 2", name{0, 0, "begin", "last"}, name{1, 1, "begin", "last"}, name{3, 2, "a", "a"})
	wantNamed(t, "with a defer", inFn(1, 0, false, nil, deferred(variable(0))), 1,
		"begin: Scope 1; Line 7; Move 1 0; List 2; Defer ~1 ~2; Leave", name{0, 0, "begin", "last"})
}

// Two variables may have one name; each has an entry.
func TestCompileNamedTwice(t *testing.T) {
	u := text(3, let(2), let(0))
	u.Fns[0].Vars = []string{"a", "b", "a"}
	p := made(t, "one name", u).Protos[0]
	if want := []impl.Named{{Name: "a", Reg: 1, From: 4, To: 4}, {Name: "a", Reg: 0, From: 2, To: 4}}; !slices.Equal(p.Named, want) {
		t.Error(p.Named)
	}
}

func TestCompileUpsOfProtos(t *testing.T) {
	u := withFns(text(3, lets(2, 0), count(1, do(closure(1)))),
		impl.Fn{Params: 1, Rest: true, Vars: names(3), Ups: []impl.Up{local(1), local(0), local(2), local(1)}, Nodes: nodesOf(block(let(2), giveBack(closure(3), closure(2))))},
		plain(outer(3), local(2), outer(0), local(0)),
		plain(local(0), outer(1)))
	c := made(t, "ups", u)
	for f, want := range [][]impl.Up{
		nil,
		{local(5), local(1), local(0), local(5)},
		{outer(3), local(2), outer(0), local(0)},
		{local(0), outer(1)},
	} {
		if got := c.Protos[f].Ups; !slices.Equal(got, want) {
			t.Errorf("fn %d: ups are %v, want %v", f, got, want)
		}
	}
}

func TestCompileHeads(t *testing.T) {
	u := inFn(2, 0, true, nil)
	u.Fns[0].Name, u.Fns[0].Line, u.Fns[0].Rest = "", 0, true
	u.Fns[1].Name, u.Fns[1].Line = longText(impl.MaxName), impl.MaxLine
	c := made(t, "heads", u)
	if p := c.Protos[0]; p.Name != "" || p.Line != 0 || p.Params != 0 || !p.Rest {
		t.Error(p)
	}
	if p := c.Protos[1]; p.Name != longText(impl.MaxName) || p.Line != impl.MaxLine || p.Params != 2 || !p.Rest {
		t.Error(p)
	}
}

func wantRegs(t *testing.T, what string, u impl.Unit, f, want int) {
	t.Helper()
	if got := made(t, what, u).Protos[f].Regs; got != want {
		t.Errorf("%s: %d registers, want %d", what, got, want)
	}
}

func TestCompileRegs(t *testing.T) {
	wantRegs(t, "nothing but the return", text(0), 0, 1)
	withRest := text(0)
	withRest.Fns[0].Rest = true
	wantRegs(t, "and the rest", withRest, 0, 2)
	for params := range 4 {
		wantRegs(t, "parameters", inFn(params, 0, false, nil), 1, params+1)
		wantRegs(t, "parameters and rest", inFn(params, 0, true, nil), 1, params+2)
	}
	for _, c := range []struct {
		what string
		x    tree
		want int
	}{
		{"a let", let(0), 1},
		{"a let of three", lets(0, 1, 2), 3},
		{"a let of three by a list of one", letOf(3, one()), 5},
		{"a let of three by a call", letOf(3, call(one())), 6},
		{"a let of one by two", letOf(1, one(), one()), 3},
		{"a set of an element", set(1, index(one(), one()), one()), 3},
		{"a set of two elements", set(2, index(one(), one()), index(one(), one()), one(), one()), 8},
		{"a return of nothing", giveBack(), 1},
		{"a return", giveBack(one(), one()), 2},
		{"a return of a wide operation", giveBack(plus(one(), plus(one(), one()))), 4},
		{"a throw", throwing(one()), 1},
		{"an operation", throwing(plus(one(), one())), 2},
		{"a choice", throwing(both(one(), both(one(), one()))), 1},
		{"a table", throwing(table(one(), one())), 3},
		{"an empty table", throwing(table()), 1},
		{"all of a call", throwing(tableAll(one(), call(one()))), 4},
		{"a call", do(one()), 2},
		{"a call with an argument", do(one(), one()), 3},
		{"a defer", deferred(one()), 2},
		{"an if", stmt(impl.NIf, one(), block()), 1},
		{"a while", while(), 1},
		{"a for", count(0), 4},
		{"an each of one", each([]int{0}), 4},
		{"an each of four", each([]int{0, 1, 2, 3}), 7},
		{"a for with a wide step", stmt(impl.NFor, one(), one(), plus(one(), plus(one(), plus(one(), one()))), block()).refs(0), 6},
		{"a try, of which two are used", catch(0, 1, block(), block()), 2},
		{"a try with more in its first block", catch(0, 1, block(lets(2, 3, 4)), block()), 3},
		{"a try with more in its second block", catch(0, 1, block(), block(lets(2, 3, 4))), 5},
		{"blocks behind each other", block(block(lets(0, 1)), block(lets(2, 3, 4))), 3},
		{"blocks in each other", block(let(0), block(lets(1, 2), block(let(3)))), 4},
		{"what is never reached", block(giveBack(), lets(0, 1, 2, 3)), 4},
	} {
		wantRegs(t, c.what, text(5, c.x), 0, c.want)
		behind := text(7, lets(5, 6), c.x)
		behind.Fns[0].Rest = true
		wantRegs(t, c.what+", behind two", behind, 0, c.want+3)
	}
}

// Other names of the variables change the names of Named, and nothing else.
func TestCompileWithOtherNames(t *testing.T) {
	g := &grower{d: 31}
	named := 0
	for range 300 {
		u := g.unit()
		first := impl.Compile(u)
		if first.Code != 0 {
			continue
		}
		for f := range u.Fns {
			for v := range u.Fns[f].Vars {
				u.Fns[f].Vars[v] = longText(1 + g.d.below(impl.MaxName))
			}
		}
		second := impl.Compile(u)
		for f := range u.Fns {
			home := impl.Homes(u, f)
			var declared []string
			for v, name := range u.Fns[f].Vars {
				if home[v] >= 0 {
					declared = append(declared, name)
				}
			}
			for i := range second.Made.Protos[f].Named {
				if got := second.Made.Protos[f].Named[i].Name; got != declared[i] {
					t.Fatalf("fn %d: name %d is %s, want %s", f, i, got, declared[i])
				}
				second.Made.Protos[f].Named[i].Name = first.Made.Protos[f].Named[i].Name
				named++
			}
		}
		if showCompiled(first) != showCompiled(second) {
			t.Fatalf("more than the names has changed: %s, then %s", showCompiled(first), showCompiled(second))
		}
	}
	if named < 500 {
		t.Error("too few names: ", named)
	}
}
