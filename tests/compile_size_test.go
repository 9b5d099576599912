package tests

import (
	"fmt"
	"strings"
	"testing"
	"time"

	"loop.example/draft/impl"
)

// refusedAs asks for this Code and nothing else.
func refusedAs(t *testing.T, what string, u impl.Unit, code int) {
	t.Helper()
	if c := compile(t, u); c.Code != code || len(c.Made.Protos) != 0 {
		t.Errorf("%s: Code %d and %d protos, want Code %d", what, c.Code, len(c.Made.Protos), code)
	}
}

func tooLarge(t *testing.T, what string, u impl.Unit) {
	t.Helper()
	valid(t, what, u)
	refusedAs(t, what, u, 2)
}

func fits(t *testing.T, what string, u impl.Unit) impl.Code {
	t.Helper()
	valid(t, what, u)
	return made(t, what, u)
}

func TestCompileWrongUnits(t *testing.T) {
	units := faulty()
	for code := 1; code <= 9; code++ {
		for i, u := range units[code] {
			what := fmt.Sprint("code ", code, ", unit ", i)
			if got := impl.CheckUnit(u); got.Code != code {
				t.Errorf("%s: the fault is %v", what, got)
			}
			refusedAs(t, what, u, 1)
		}
		if len(units[code]) == 0 {
			t.Error("no unit with code ", code)
		}
	}
	// A unit that would be too large as well is not valid first of all.
	both := chain(impl.MaxFns)
	both.Fns[7].Nodes[0].Line = 1
	refusedAs(t, "not valid and too large", both, 1)
}

// returns is a block that becomes so many instructions, in as few nodes as it takes: a return of nothing is three, one of a nil five.
func returns(ins int) tree {
	var kids []tree
	for ; ins%3 != 0; ins -= 5 {
		kids = append(kids, giveBack(none()))
	}
	kids = append(kids, repeated(giveBack(), ins/3)...)
	x := block()
	for len(kids) > 0 {
		take := min(len(kids), impl.MaxKids)
		x.kids = append(x.kids, block(kids[:take]...))
		kids = kids[take:]
	}
	return x
}

func insIn(c impl.Code) (many int) {
	for _, p := range c.Protos {
		many += len(p.Ins)
	}
	return many
}

func TestCompileMostInstructions(t *testing.T) {
	for _, more := range []int{-2, -1, 0, 1, 2, 3} {
		u := text(0, returns(impl.MaxIns-2+more))
		if more > 0 {
			tooLarge(t, fmt.Sprint("in one fn, and ", more), u)
		} else if got := insIn(fits(t, "in one fn", u)); got != impl.MaxIns+more {
			t.Errorf("%d instructions, want %d", got, impl.MaxIns+more)
		}
		// A NDo of a NFn is 5 instructions; each fn ends in 2.
		u = withFns(text(0, do(closure(1)), do(closure(2)), returns(2000)), plain(), plain())
		u.Fns[1].Nodes = nodesOf(block(returns(2000)))
		u.Fns[2].Nodes = nodesOf(block(returns(impl.MaxIns - 4000 - 10 - 6 + more)))
		if more > 0 {
			tooLarge(t, fmt.Sprint("in three fns, and ", more), u)
		} else if got := insIn(fits(t, "in three fns", u)); got != impl.MaxIns+more {
			t.Errorf("%d instructions, want %d", got, impl.MaxIns+more)
		}
	}
}

// A few nodes can become a great many instructions.
func TestCompileDropsWithoutEnd(t *testing.T) {
	var all []int
	for v := range impl.MaxVars {
		all = append(all, v)
	}
	for _, kind := range []int{impl.NBreak, impl.NNext} {
		for _, many := range []int{1, 25, 29, 30, 199} {
			u := text(impl.MaxVars, while(behind(lets(all...), repeated(stmt(kind), many))...))
			// All but the leaves: ITick and its like, the variables, their drops, the return.
			want := 1 + 1 + 2 + 1 + impl.MaxVars + many*(impl.MaxVars+2) + impl.MaxVars + 2 + 2
			if want > impl.MaxIns {
				tooLarge(t, fmt.Sprint(many, " leaves"), u)
			} else if got := insIn(fits(t, "leaves", u)); got != want {
				t.Errorf("%d leaves: %d instructions, want %d", many, got, want)
			}
		}
	}
}

// numbers is returns of so many constants, all others.
func numbers(from, many int) tree {
	x := block()
	for many > 0 {
		list := giveBack()
		for ; many > 0 && len(list.kids) < impl.MaxKids; many-- {
			list.kids = append(list.kids, number(int64(from)))
			from++
		}
		x.kids = append(x.kids, list)
	}
	return x
}

func TestCompileMostConsts(t *testing.T) {
	c := fits(t, "as many as can be", text(0, numbers(0, impl.MaxConsts)))
	if got := len(c.Protos[0].Consts); got != impl.MaxConsts {
		t.Errorf("%d consts", got)
	}
	fits(t, "all of them twice", text(0, numbers(0, impl.MaxConsts), numbers(0, impl.MaxConsts)))
	tooLarge(t, "one more", text(0, numbers(0, impl.MaxConsts+1)))
	tooLarge(t, "one more, behind", text(0, numbers(0, impl.MaxConsts), throwing(none())))
	tooLarge(t, "a nil of a let more", text(1, numbers(0, impl.MaxConsts), let(0)))
	fits(t, "one more, that was there", text(0, numbers(0, impl.MaxConsts), throwing(number(7))))
	u := withFns(text(0, do(closure(1)), numbers(0, impl.MaxConsts)), plain())
	u.Fns[1].Nodes = nodesOf(block(numbers(1000, impl.MaxConsts)))
	fits(t, "as many in two fns", u)
	u.Fns[1].Nodes = nodesOf(block(numbers(1000, impl.MaxConsts+1)))
	tooLarge(t, "one more in the second", u)
}

// A fn has at most MaxVars variables, and so never too many names; the most that there can be fit.
func TestCompileMostNames(t *testing.T) {
	u := withFns(text(0, do(closure(1))), impl.Fn{Params: impl.MaxVars / 2, Vars: names(impl.MaxVars), Nodes: nodesOf(block())})
	var kids []tree
	for v := impl.MaxVars / 2; v < impl.MaxVars; v++ {
		u.Fns[1].Vars[v] = longText(impl.MaxName)
		kids = append(kids, let(v))
	}
	u.Fns[1].Nodes = nodesOf(block(kids...))
	if got := len(fits(t, "names", u).Protos[1].Named); got != impl.MaxVars {
		t.Errorf("%d names", got)
	}
}

// wideSum is an operation whose parts need so many registers at once, as they lean to the right.
func wideSum(registers int) tree {
	x := one()
	for range registers - 1 {
		x = plus(one(), x)
	}
	return x
}

// heldBehind is a unit whose fn 1 holds so many registers ahead of x, by parameters, a rest and eachs; the variables of x are those from the one that it is given on.
func heldBehind(registers int, rest bool, x func(v int) tree) impl.Unit {
	const eachs = 20
	params := registers - 4*eachs
	if rest {
		params--
	}
	inside := x(params + eachs)
	for e := range eachs {
		inside = each([]int{params + e}, inside)
	}
	return withFns(text(0, do(closure(1))), impl.Fn{Params: params, Rest: rest, Vars: names(params + eachs + 4), Nodes: nodesOf(block(inside))})
}

func TestCompileMostRegisters(t *testing.T) {
	for _, c := range []struct {
		what  string
		needs int
		x     func(v int) tree
	}{
		{"a try, of which two are used", 2, func(v int) tree { return catch(v, v+1, block(), block()) }},
		{"a catch", 3, func(v int) tree { return catch(v, v+1, block(), block(let(v+2))) }},
		{"an each", 4, func(v int) tree { return each([]int{v}) }},
		{"an each of four", 7, func(v int) tree { return each([]int{v, v + 1, v + 2, v + 3}) }},
		{"a for", 4, func(v int) tree { return count(v) }},
		{"a let", 1, func(v int) tree { return block(let(v)) }},
		{"a let of three", 3, func(v int) tree { return block(lets(v, v+1, v+2)) }},
		{"a let of three with one expression", 5, func(v int) tree { return block(stmt(impl.NLet, one()).refs(v, v+1, v+2)) }},
		{"a let ahead of a keep", 3, func(v int) tree { return block(let(v), deferred(one())) }},
		{"a return", 1, func(v int) tree { return giveBack() }},
		{"a return of one", 2, func(v int) tree { return giveBack(one()) }},
		{"a call", 2, func(v int) tree { return do(one()) }},
		{"a sum", 9, func(v int) tree { return throwing(wideSum(9)) }},
		{"a table", 3, func(v int) tree { return throwing(table(one(), one())) }},
		{"a set of two elements", 8, func(v int) tree { return set(2, index(one(), one()), index(one(), one()), one(), one()) }},
		{"something that is never reached", 6, func(v int) tree { return block(giveBack(), throwing(wideSum(6))) }},
	} {
		for _, rest := range []bool{false, true} {
			for more := -1; more <= 1; more++ {
				u := heldBehind(impl.MaxRegs-c.needs+more, rest, c.x)
				if more > 0 {
					tooLarge(t, c.what+", one more", u)
				} else if got := fits(t, c.what, u).Protos[1].Regs; got != impl.MaxRegs+more {
					t.Errorf("%s: %d registers, want %d", c.what, got, impl.MaxRegs+more)
				}
			}
		}
	}
	far := heldBehind(200, false, func(v int) tree { return throwing(wideSum(58)) })
	tooLarge(t, "far more", far)
}

// scopes is so many blocks with a defer each, one in another.
func scopes(many int, inside ...tree) tree {
	x := block(append(inside, deferred(one()))...)
	for range many - 1 {
		x = block(x, deferred(one()))
	}
	return x
}

func guardsOf(c impl.Code) (most int) {
	for _, s := range impl.States(c, 0) {
		most = max(most, len(s.Guards))
	}
	return most
}

func TestCompileMostGuards(t *testing.T) {
	if got := guardsOf(fits(t, "scopes", text(0, scopes(impl.MaxGuards)))); got != impl.MaxGuards {
		t.Errorf("%d guards", got)
	}
	tooLarge(t, "one scope more", text(0, scopes(impl.MaxGuards+1)))
	fits(t, "one scope more, that is never reached", text(0, giveBack(), scopes(impl.MaxGuards+1)))
	fits(t, "far more that are never reached", text(0, giveBack(), scopes(90)))
	fits(t, "never reached behind a break", text(0, while(stmt(impl.NBreak), scopes(90))))
	tooLarge(t, "reached by the other way of an if", text(0, stmt(impl.NIf, none(), block(giveBack())), scopes(impl.MaxGuards+1)))

	tries := func(many int, inside ...tree) tree {
		x := block(inside...)
		for i := range many {
			x = block(catch(2*i, 2*i+1, x, block()))
		}
		return x
	}
	u := impl.Unit{Fns: []impl.Fn{{Vars: names(200), Nodes: nodesOf(tries(impl.MaxGuards))}}}
	if got := guardsOf(fits(t, "tries", u)); got != impl.MaxGuards {
		t.Errorf("%d guards", got)
	}
	body := tries(impl.MaxGuards - 1)
	body.kids = append(body.kids, deferred(one()))
	u.Fns[0].Nodes = nodesOf(body)
	fits(t, "tries in a scope", u)
	body = tries(impl.MaxGuards)
	body.kids = append(body.kids, deferred(one()))
	u.Fns[0].Nodes = nodesOf(body)
	tooLarge(t, "as many tries in a scope", u)
	u.Fns[0].Nodes = nodesOf(tries(40, scopes(11)))
	tooLarge(t, "scopes in tries", u)
	u.Fns[0].Nodes = nodesOf(tries(40, scopes(10)))
	fits(t, "scopes in tries, one less", u)
	u.Fns[0].Nodes = nodesOf(tries(40, scopes(10), scopes(10)))
	fits(t, "scopes behind each other", u)
}

func TestCompileMostFns(t *testing.T) {
	fits(t, "as many as can be", chain(impl.MaxProtos))
	tooLarge(t, "one more", chain(impl.MaxProtos+1))
	tooLarge(t, "as many as a unit lets stand", chain(impl.MaxFns))
}

func TestCompileMostOfAUnit(t *testing.T) {
	x := block()
	for range impl.MaxNest {
		x = block(x)
	}
	fits(t, "the deepest block", impl.Unit{Fns: []impl.Fn{{Nodes: nodesOf(x)}}})
	fits(t, "the deepest expression", text(0, giveBack(nested(impl.MaxNest-2))))
	fits(t, "the deepest sum", text(0, throwing(wideSum(impl.MaxNest-1))))
	fits(t, "the most kids", text(0, giveBack(repeated(one(), impl.MaxKids)...)))
	fits(t, "the most targets", text(1, let(0), set(impl.MaxKids-1, append(repeated(variable(0), impl.MaxKids-1), one())...)))
	fits(t, "the longest text", text(0, throwing(textNode(strings.Repeat("\xff", impl.MaxStr)))))
}

// The greatest units are answered in a time that is short even on a slow machine.
func TestCompileGreatestUnits(t *testing.T) {
	var strs []tree
	for i := range 2900 {
		strs = append(strs, textNode(longText(impl.MaxStr-3)+fmt.Sprintf("%03d", i%500)))
	}
	long := block()
	for len(strs) > 0 {
		take := min(len(strs), impl.MaxKids)
		long.kids = append(long.kids, giveBack(strs[:take]...))
		strs = strs[take:]
	}
	wide := heldBehind(240, true, func(v int) tree {
		return block(repeated(block(repeated(do(one(), one()), 100)...), 7)...)
	})
	units := []impl.Unit{great(), linked(), text(0, long), text(0, returns(impl.MaxIns-2)), chain(impl.MaxProtos), text(0, repeated(while(scopes(40)), 5)...), wide}
	filledUp := text(0)
	filledUp.Fns[0].Nodes = filled(impl.MaxNodes)
	for i, u := range append(units, filledUp) {
		if fault := impl.CheckUnit(u); fault != (impl.Fault{}) {
			t.Fatalf("unit %d: %v", i, fault)
		}
		begin := time.Now()
		c := impl.Compile(u)
		if took := time.Since(begin); took > 5*time.Second {
			t.Errorf("unit %d: %v", i, took)
		} else {
			t.Logf("unit %d: %v, Code %d, %d instructions", i, took, c.Code, insIn(c.Made))
		}
		sound(t, u, c)
	}
}
