package tests

import (
	"fmt"
	"testing"

	"loop.example/draft/impl"
)

// lets declares several variables with no expression.
func lets(refs ...int) tree { return stmt(impl.NLet).refs(refs...) }

func count(v int, kids ...tree) tree {
	return stmt(impl.NFor, one(), one(), one(), block(kids...)).refs(v)
}

func each(refs []int, kids ...tree) tree {
	return stmt(impl.NEach, one(), block(kids...)).refs(refs...)
}

func catch(v, w int, tried, caught tree) tree {
	return stmt(impl.NTry, tried, caught).refs(v, w)
}

func TestHomesOfParameters(t *testing.T) {
	for params := range 5 {
		for _, rest := range []bool{false, true} {
			fn := impl.Fn{Params: params, Rest: rest, Vars: names(params + 3), Nodes: nodesOf(block(let(params), block(let(params+1))))}
			var want []int
			for p := range params {
				want = append(want, p)
			}
			next := params
			if rest {
				next++
			}
			what := fmt.Sprint(params, " parameters, rest ", rest)
			wantHomes(t, what, withFns(text(1, do(closure(1))), fn), 1, append(want, next, next+1, -1)...)
		}
	}
	u := text(2, let(1))
	u.Fns[0].Rest = true
	wantHomes(t, "the text with rest", u, 0, -1, 1)
	wantHomes(t, "the text without", text(2, let(1)), 0, -1, 0)
}

// A parameter that is closed over is boxed where it is.
func TestHomesOfCapturedOnes(t *testing.T) {
	u := withFns(text(0, do(closure(1))),
		impl.Fn{Params: 2, Vars: names(8), Nodes: nodesOf(block(let(2), count(3, each([]int{4}, catch(5, 6, block(), block(do(closure(2))))))))},
		plain())
	want := []int{0, 1, 2, 6, 10, 11, 12, -1}
	wantHomes(t, "none closed over", u, 1, want...)
	for v := range 7 {
		u.Fns[2].Ups = append(u.Fns[2].Ups, local(v))
		wantHomes(t, fmt.Sprint("0 to ", v, " closed over"), u, 1, want...)
	}
}

func TestHomesOfLets(t *testing.T) {
	wantHomes(t, "no variables", text(0), 0)
	wantHomes(t, "one behind the other", text(3, let(0), let(1, one()), let(2)), 0, 0, 1, 2)
	wantHomes(t, "in another order", text(3, let(2), let(0, one()), let(1)), 0, 1, 2, 0)
	wantHomes(t, "several", text(4, lets(3, 0, 2), let(1)), 0, 1, 3, 2, 0)
	wantHomes(t, "a block in a block", text(4, let(0), block(let(1), block(let(2)), let(3))), 0, 0, 1, 2, 2)
	wantHomes(t, "a block behind a block", text(5, block(let(0), let(1)), block(let(2)), let(3), block(let(4))), 0, 0, 1, 0, 0, 1)
	wantHomes(t, "behind a block", text(4, let(0), block(lets(1, 2)), let(3)), 0, 0, 1, 2, 1)
	wantHomes(t, "an empty block between", text(2, let(0), block(), block(block()), let(1)), 0, 0, 1)
	wantHomes(t, "reads of others", text(3, let(0, one()), let(1, variable(0)), let(2, variable(1))), 0, 0, 1, 2)
}

// So many Refs with so many expressions: the homes are those from top on, whatever the list of values needs.
func TestHomesOfLetsByNumbers(t *testing.T) {
	for refs := 1; refs <= 5; refs++ {
		for kids := range 6 {
			for _, last := range []tree{one(), call(one(), one()), expr(impl.NRest)} {
				x := stmt(impl.NLet)
				for i := range kids {
					x.kids = append(x.kids, one())
					if i+1 == kids {
						x.kids[i] = last
					}
				}
				want := []int{1}
				for v := range refs {
					x.node.Refs = append(x.node.Refs, v+1)
					want = append(want, v+2)
				}
				u := text(refs+2, let(0), x, block(let(refs+1)))
				u.Fns[0].Rest = true
				wantHomes(t, fmt.Sprint(refs, " refs, ", kids, " expressions"), u, 0, append(want, refs+2)...)
			}
		}
	}
}

// What an expression needs while it is worked out is free again behind it.
func TestHomesBehindExpressions(t *testing.T) {
	for _, kind := range allKinds {
		if isStatement(kind) {
			continue
		}
		w := &world{vars: 2}
		u := w.around(block(let(1, w.sample(kind)), let(2)))
		wantHomes(t, fmt.Sprint("kind ", kind), u, 1, 0, 2, 3)
	}
	wide := call(one(), expr(impl.NTable, one(), one(), one(), call(one(), one())).op(1), expr(impl.NBinary, one(), call(one())).op(impl.OpAdd))
	wantHomes(t, "a wide one", text(3, let(0, wide), let(1, wide), let(2)), 0, 0, 1, 2)
}

// Behind each kind of statement but a NLet top is what it was ahead of it.
func TestHomesBehindStatements(t *testing.T) {
	for _, kind := range allKinds {
		if !isStatement(kind) || kind == impl.NLet {
			continue
		}
		w := &world{vars: 2}
		ahead, behind := let(1), let(2)
		u := w.around(block(ahead, w.sample(kind), behind))
		got := homes(t, u, 1)
		if got[1] != 2 || got[2] != 3 {
			t.Errorf("kind %d: homes are %v", kind, got)
		}
	}
	targets := stmt(impl.NSet, expr(impl.NIndex, variable(0), one()), variable(0), expr(impl.NIndex, one(), one()), one(), call(one())).num(3)
	wantHomes(t, "several targets", text(3, let(0), targets, let(1)), 0, 0, 1, -1)
	wantHomes(t, "a defer", text(3, let(0), stmt(impl.NDefer, call(variable(0), one())), let(1), let(2)), 0, 0, 1, 2)
	wantHomes(t, "a defer ahead of all", text(2, stmt(impl.NDefer, call(one(), one())), let(0), block(let(1))), 0, 0, 1)
	wantHomes(t, "defers in blocks", text(4,
		let(0), block(let(1), stmt(impl.NDefer, call(one())), let(2), stmt(impl.NDefer, call(one()))), let(3)), 0, 0, 1, 2, 1)
}

func TestHomesInBranches(t *testing.T) {
	u := text(6, let(0),
		stmt(impl.NIf, variable(0), block(let(1), let(2)),
			stmt(impl.NIf, variable(0), block(let(3)), block(let(4)))), let(5))
	wantHomes(t, "if, else if, else", u, 0, 0, 1, 2, 1, 1, 1)
	wantHomes(t, "if alone", text(3, stmt(impl.NIf, call(one(), one()), block(let(1))), let(2)), 0, -1, 0, 0)
}

func TestHomesInLoops(t *testing.T) {
	wantHomes(t, "while", text(3, let(0), while(let(1)), let(2)), 0, 0, 1, 1)
	wantHomes(t, "for", text(4, let(0), count(1, let(2)), let(3)), 0, 0, 4, 5, 1)
	wantHomes(t, "for in for", text(5, count(0, let(1), count(2, let(3)), let(4))), 0, 3, 4, 8, 9, 5)
	wantHomes(t, "for behind for", text(4, count(0, let(1)), count(2, let(3))), 0, 3, 4, 3, 4)
	wantHomes(t, "each of 1", text(3, each([]int{0}, let(1)), let(2)), 0, 3, 4, 0)
	wantHomes(t, "each of 2", text(4, each([]int{0, 1}, let(2)), let(3)), 0, 3, 4, 5, 0)
	wantHomes(t, "each of 3", text(5, each([]int{2, 0, 1}, let(3)), let(4)), 0, 4, 5, 3, 6, 0)
	wantHomes(t, "each of 4", text(6, let(5), each([]int{3, 2, 1, 0}, let(4))), 0, 7, 6, 5, 4, 8, 0)
	wantHomes(t, "each in each", text(4, each([]int{0}, each([]int{1, 2}, let(3)))), 0, 3, 7, 8, 9)
	wantHomes(t, "while in for in each", text(4, each([]int{0}, count(1, while(let(2))), let(3))), 0, 3, 7, 8, 4)
	wantHomes(t, "each in for in while", text(4, while(let(0), count(1, each([]int{2}, let(3))))), 0, 0, 4, 8, 9)
	for _, leave := range []int{impl.NBreak, impl.NNext} {
		wantHomes(t, "left in its midst", text(4, let(0), count(1, let(2), stmt(leave), let(3))), 0, 0, 4, 5, 6)
	}
}

func TestHomesOfWhatWasCaught(t *testing.T) {
	wantHomes(t, "alone", text(2, catch(0, 1, block(), block())), 0, 0, 1)
	wantHomes(t, "the other way round", text(2, catch(1, 0, block(), block())), 0, 1, 0)
	wantHomes(t, "lets in both blocks", text(6, let(0), catch(1, 2, block(let(3), let(4)), block(let(5)))), 0, 0, 1, 2, 1, 2, 3)
	wantHomes(t, "behind it", text(4, catch(0, 1, block(), block(let(2))), let(3)), 0, 0, 1, 2, 0)
	wantHomes(t, "a catch in a try", text(6, catch(0, 1, block(let(2), catch(3, 4, block(), block(let(5)))), block())), 0, 0, 1, 0, 1, 2, 3)
	wantHomes(t, "a catch in a catch", text(6, catch(0, 1, block(), block(let(2), catch(3, 4, block(let(5)), block())))), 0, 0, 1, 2, 3, 4, 3)
	wantHomes(t, "in a loop", text(5, count(0, catch(1, 2, block(let(3)), block(let(4))))), 0, 3, 4, 5, 4, 6)
	wantHomes(t, "a loop in both", text(6, catch(0, 1, block(count(2)), block(count(3), each([]int{4, 5})))), 0, 0, 1, 3, 5, 5, 6)
	u := text(3, catch(0, 1, block(), block(let(2))))
	u.Fns[0].Rest = true
	wantHomes(t, "behind the rest", u, 0, 1, 2, 3)
}

func TestHomesThatAreNot(t *testing.T) {
	wantHomes(t, "none declared", text(3), 0, -1, -1, -1)
	wantHomes(t, "one between", text(3, let(0), let(2)), 0, 0, -1, 1)
	wantHomes(t, "behind a return", text(3, giveBack(), let(0), block(let(1))), 0, 0, 1, -1)
	wantHomes(t, "behind a throw", text(2, stmt(impl.NThrow, one()), let(0), count(1)), 0, 0, 4)
	wantHomes(t, "behind a break", text(3, while(stmt(impl.NBreak), let(0), catch(1, 2, block(), block()))), 0, 0, 1, 2)
	wantHomes(t, "behind a next", text(2, while(stmt(impl.NNext), each([]int{0}, let(1)))), 0, 3, 4)
	wantHomes(t, "in what is false", text(1, stmt(impl.NIf, expr(impl.NFalse), block(let(0)))), 0, 0)
	wantHomes(t, "in a loop that never runs", text(1, stmt(impl.NWhile, expr(impl.NFalse), block(let(0)))), 0, 0)
	wantHomes(t, "behind a loop that never ends", text(1, stmt(impl.NWhile, expr(impl.NTrue), block()), let(0)), 0, 0)
	wantHomes(t, "in a handler of nothing", text(3, catch(0, 1, block(), block(let(2)))), 0, 0, 1, 2)

	u := withFns(text(2, let(1), do(closure(1))), impl.Fn{Params: 1, Vars: names(3), Ups: []impl.Up{local(1)}, Nodes: nodesOf(block(let(2)))})
	wantHomes(t, "the text and its fn have homes of their own", u, 0, -1, 0)
	wantHomes(t, "the fn", u, 1, 0, -1, 1)
}

// Statements count in the order of their blocks, not in that of their numbers.
func TestHomesGoByOrderInBlocks(t *testing.T) {
	u := text(3, let(0), let(1), block(let(2)))
	nodes := u.Fns[0].Nodes
	nodes[len(nodes)-1].Kids = []int{3, 1, 0}
	wantHomes(t, "turned round", u, 0, 1, 0, 0)
}

// holder is a statement around others: it declares own variables in the homes that it names, seen from its top, and what stands in it begins at inner.
type holder struct {
	what  string
	own   []int
	inner int
	put   func(own []int, inside tree) tree
}

var holders = []holder{
	{"block", nil, 0, func(own []int, x tree) tree { return block(x) }},
	{"if", nil, 0, func(own []int, x tree) tree { return stmt(impl.NIf, one(), block(x)) }},
	{"else", nil, 0, func(own []int, x tree) tree { return stmt(impl.NIf, one(), block(), block(x)) }},
	{"else if", nil, 0, func(own []int, x tree) tree {
		return stmt(impl.NIf, one(), block(), stmt(impl.NIf, one(), block(x)))
	}},
	{"while", nil, 0, func(own []int, x tree) tree { return while(x) }},
	{"defer", nil, 0, func(own []int, x tree) tree { return block(stmt(impl.NDefer, call(one())), x) }},
	{"let", []int{0}, 1, func(own []int, x tree) tree { return block(let(own[0], one()), x) }},
	{"let of none", []int{0, 1}, 2, func(own []int, x tree) tree { return block(lets(own...), x) }},
	{"let of several", []int{0, 1, 2}, 3, func(own []int, x tree) tree {
		return block(stmt(impl.NLet, one(), call(one())).refs(own...), x)
	}},
	{"for", []int{3}, 4, func(own []int, x tree) tree { return count(own[0], x) }},
	{"each 1", []int{3}, 4, func(own []int, x tree) tree { return each(own, x) }},
	{"each 2", []int{3, 4}, 5, func(own []int, x tree) tree { return each(own, x) }},
	{"each 3", []int{3, 4, 5}, 6, func(own []int, x tree) tree { return each(own, x) }},
	{"each 4", []int{3, 4, 5, 6}, 7, func(own []int, x tree) tree { return each(own, x) }},
	{"try", []int{0, 1}, 0, func(own []int, x tree) tree { return catch(own[0], own[1], block(x), block()) }},
	{"catch", []int{0, 1}, 2, func(own []int, x tree) tree { return catch(own[0], own[1], block(), block(x)) }},
}

// hold puts these around each other, the first outermost, and answers the homes that follow.
func hold(around []holder, top int) (x tree, want []int) {
	var tops []int
	for _, h := range around {
		tops = append(tops, top)
		for _, r := range h.own {
			want = append(want, top+r)
		}
		top += h.inner
	}
	free := len(want)
	x = block()
	for i := len(around) - 1; i >= 0; i-- {
		h := around[i]
		var own []int
		for j := range h.own {
			own = append(own, free-len(h.own)+j)
		}
		free -= len(h.own)
		x = h.put(own, x)
	}
	return x, want
}

// Each statement that declares in each other, three deep, with a variable ahead of them and one behind.
func TestHomesInEachOther(t *testing.T) {
	for _, a := range holders {
		for _, b := range holders {
			for _, c := range holders {
				x, want := hold([]holder{a, b, c}, 1)
				vars := len(want)
				u := text(vars+3, let(vars), x, let(vars+1))
				want = append(want, 0, 1, -1)
				what := a.what + ", " + b.what + ", " + c.what
				if fault := impl.CheckUnit(u); fault != (impl.Fault{}) {
					t.Fatalf("%s: %v", what, fault)
				}
				got := impl.Homes(u, 0)
				if fmt.Sprint(got) != fmt.Sprint(want) {
					t.Errorf("%s: homes are %v, want %v", what, got, want)
				}
				if wrong := newOracle(u).wrongHomes(0, impl.Captured(u, 0), got); wrong != "" {
					t.Errorf("%s: %s", what, wrong)
				}
			}
		}
	}
}

// The deepest nests that a unit lets stand: a home is told even where it lies above the greatest register that a code may have.
func TestHomesFromTheDepth(t *testing.T) {
	for _, h := range holders {
		depth := map[string]int{"let": 1, "block": 1, "defer": 1, "let of none": 1, "let of several": 1, "else if": 3}[h.what]
		if depth == 0 {
			depth = 2
		}
		many := (impl.MaxNest - 4) / depth
		if len(h.own) > 0 {
			many = min(many, impl.MaxVars/len(h.own))
		}
		var around []holder
		for range many {
			around = append(around, h)
		}
		x, want := hold(around, 0)
		wantHomes(t, fmt.Sprint(many, " times ", h.what), text(len(want), x), 0, want...)
	}
	var around []holder
	for range 49 {
		around = append(around, holders[13])
	}
	x, want := hold(around, 0)
	if high := want[len(want)-1]; high <= impl.MaxRegs {
		t.Fatal("too low: ", high)
	}
	wantHomes(t, "above the greatest register", text(len(want)+1, x), 0, append(want, -1)...)
}
