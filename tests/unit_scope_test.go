package tests

import (
	"fmt"
	"slices"
	"testing"

	"loop.example/draft/impl"
)

// The variables of scopedFn, the first a parameter.
const (
	param = iota
	first
	second
	third
	inBlock
	counter
	inFor
	key
	value
	extra
	fourth
	inEach
	caught
	trace
	inTry
	inCatch
	inIf
	inElseIf
	inElse
	inWhile
	late
	never
	scopedVars
)

// holes puts a probe into one of the holes of a text, and nil into the others.
type holes struct {
	probe tree
	wants [][]int
	pick  int
	at    int
}

// hole is the next one; seen are the variables that are in scope there beside the parameter.
func (h *holes) hole(seen ...int) tree {
	h.wants = append(h.wants, append([]int{param}, seen...))
	if len(h.wants)-1 == h.pick {
		return h.probe.marked(&h.at)
	}
	return none()
}

func (h *holes) body() tree {
	all := func(more ...int) []int { return append([]int{first, second, third}, more...) }
	use := func(seen ...int) tree { return do(h.hole(seen...)) }
	return block(
		use(),
		let(first, h.hole()),
		use(first),
		stmt(impl.NLet, h.hole(first), h.hole(first)).refs(second, third),
		use(all()...),
		block(use(all()...), let(inBlock, h.hole(all()...)), use(all(inBlock)...)),
		use(all()...),
		stmt(impl.NFor, h.hole(all()...), h.hole(all()...), h.hole(all()...), block(
			use(all(counter)...), let(inFor, h.hole(all(counter)...)), while(use(all(counter, inFor)...)),
		)).refs(counter),
		use(all()...),
		stmt(impl.NEach, h.hole(all()...), block(
			let(inEach, h.hole(all(key, value, extra, fourth)...)), use(all(key, value, extra, fourth, inEach)...),
		)).refs(key, value, extra, fourth),
		use(all()...),
		stmt(impl.NTry,
			block(use(all()...), let(inTry, h.hole(all()...)), use(all(inTry)...)),
			block(use(all(caught, trace)...), let(inCatch, h.hole(all(caught, trace)...)), use(all(caught, trace, inCatch)...)),
		).refs(caught, trace),
		use(all()...),
		stmt(impl.NIf, h.hole(all()...), block(let(inIf), use(all(inIf)...)),
			stmt(impl.NIf, h.hole(all()...), block(let(inElseIf), use(all(inElseIf)...)),
				block(let(inElse), use(all(inElse)...)))),
		use(all()...),
		stmt(impl.NWhile, h.hole(all()...), block(use(all()...), let(inWhile), use(all(inWhile)...))),
		stmt(impl.NSet, expr(impl.NIndex, h.hole(all()...), h.hole(all()...)), h.hole(all()...)).num(1),
		let(late, h.hole(all()...)),
		stmt(impl.NDefer, call(h.hole(all(late)...), h.hole(all(late)...))),
		stmt(impl.NThrow, h.hole(all(late)...)),
		giveBack(h.hole(all(late)...)),
	)
}

// scoped is the unit with the probe in one of the holes of its fn 1.
func scoped(h *holes) impl.Unit {
	u := text(0, do(closure(1)))
	u.Fns = append(u.Fns, impl.Fn{Params: 1, Vars: names(scopedVars), Nodes: nodesOf(h.body())})
	return u
}

func TestScopes(t *testing.T) {
	count := &holes{pick: -1}
	valid(t, "no probe", scoped(count))
	for pick := range count.wants {
		for v := range scopedVars {
			seen := slices.Contains(count.wants[pick], v)
			h := &holes{pick: pick, probe: variable(v)}
			u := scoped(h)
			what := fmt.Sprint("variable ", v, " in hole ", pick)
			if seen {
				valid(t, what, u)
			} else {
				want(t, what, u, impl.Fault{Code: 6, Fn: 1, Node: h.at})
			}

			h = &holes{pick: pick, probe: closure(2)}
			u = scoped(h)
			u.Fns = append(u.Fns, plain(local(v)))
			if seen {
				valid(t, "closed over "+what, u)
			} else {
				want(t, "closed over "+what, u, impl.Fault{Code: 8, Fn: 1, Node: h.at})
			}
		}
	}
}

// A target is a NVar as any other.
func TestScopeOfTargets(t *testing.T) {
	set := func(v int) tree { return stmt(impl.NSet, variable(v), none()).num(1) }
	valid(t, "behind", text(1, let(0), set(0)))
	want(t, "ahead", text(1, set(0), let(0)), impl.Fault{Code: 6})
	want(t, "behind its block", text(1, block(let(0)), set(0)), impl.Fault{Code: 6, Node: 2})
}

// A name says nothing: what counts is the variable's number.
func TestScopeGoesByNumber(t *testing.T) {
	u := text(2, let(0), giveBack(variable(1)), let(1))
	u.Fns[0].Vars = []string{"a", "a"}
	want(t, "another of the same name", u, impl.Fault{Code: 6, Node: 1})
}

// A variable that is declared twice is in scope where either of the two says so.
func TestScopeOfTwoDeclarations(t *testing.T) {
	at := 0
	want(t, "the inner one ends, the outer one goes on",
		text(1, let(0), block(let(0).marked(&at)), giveBack(variable(0))), impl.Fault{Code: 6, Node: at})

	// 0 the use, 1 its return, 2 and 4 the two lets, 3 the block of the first.
	u := impl.Unit{Fns: []impl.Fn{{Vars: names(1), Nodes: []impl.Node{
		{Kind: impl.NVar, Refs: []int{0}},
		{Kind: impl.NReturn, Line: 1, Kids: []int{0}},
		{Kind: impl.NLet, Line: 1, Refs: []int{0}},
		{Kind: impl.NBlock, Line: 1, Kids: []int{2}},
		{Kind: impl.NLet, Line: 1, Refs: []int{0}},
		{Kind: impl.NBlock, Line: 1, Kids: []int{3, 4, 1}},
	}}}}
	want(t, "a use that is in the scope of the second alone", u, impl.Fault{Code: 6, Node: 4})
	u.Fns[0].Nodes[5].Kids = []int{3, 1, 4}
	want(t, "a use in the scope of neither", u, impl.Fault{Code: 6, Node: 0})
}

// Behind a loop whose variable is declared again the second declaration alone counts.
func TestScopeOfSecondBehindLoop(t *testing.T) {
	u := impl.Unit{Fns: []impl.Fn{{Vars: names(1), Nodes: []impl.Node{
		{Kind: impl.NVar, Refs: []int{0}},
		{Kind: impl.NReturn, Line: 1, Kids: []int{0}},
		{Kind: impl.NNil},
		{Kind: impl.NBlock, Line: 1},
		{Kind: impl.NEach, Line: 1, Refs: []int{0}, Kids: []int{2, 3}},
		{Kind: impl.NLet, Line: 1, Refs: []int{0}},
		{Kind: impl.NBlock, Line: 1, Kids: []int{4, 5, 1}},
	}}}}
	want(t, "behind both", u, impl.Fault{Code: 6, Node: 5})
	u.Fns[0].Nodes[6].Kids = []int{4, 1, 5}
	want(t, "between the two", u, impl.Fault{Code: 6, Node: 0})
}
