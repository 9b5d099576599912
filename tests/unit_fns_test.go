package tests

import (
	"fmt"
	"math"
	"strings"
	"testing"

	"loop.example/draft/impl"
)

// filled is a body of exactly so many nodes.
func filled(nodes int) []impl.Node {
	var blocks []tree
	for left := nodes - 1; left > 0; {
		take := min(left, impl.MaxKids+1)
		var kids []tree
		for range take - 1 {
			kids = append(kids, giveBack())
		}
		blocks = append(blocks, block(kids...))
		left -= take
	}
	return nodesOf(block(blocks...))
}

// chain is a unit of so many fns, each made by the one ahead of it.
func chain(fns int) impl.Unit {
	u := impl.Unit{}
	for f := range fns {
		fn := plain()
		if f+1 < fns {
			fn.Nodes = nodesOf(block(giveBack(closure(f + 1))))
		}
		u.Fns = append(u.Fns, fn)
	}
	return u
}

func TestNumberOfFns(t *testing.T) {
	want(t, "no fns", impl.Unit{}, impl.Fault{Code: 1})
	want(t, "an empty list of fns", impl.Unit{Fns: []impl.Fn{}}, impl.Fault{Code: 1})
	valid(t, "one fn", chain(1))
	valid(t, "the most fns", chain(impl.MaxFns))
	want(t, "too many fns", chain(impl.MaxFns+1), impl.Fault{Code: 1})
}

func TestNumberOfNodes(t *testing.T) {
	u := chain(1)
	u.Fns[0].Nodes = filled(impl.MaxNodes)
	if len(u.Fns[0].Nodes) != impl.MaxNodes {
		t.Fatal(len(u.Fns[0].Nodes))
	}
	valid(t, "the most nodes", u)
	u.Fns[0].Nodes = filled(impl.MaxNodes + 1)
	want(t, "too many nodes", u, impl.Fault{Code: 1})
	u = chain(2)
	u.Fns[1].Nodes = filled(impl.MaxNodes - len(u.Fns[0].Nodes))
	valid(t, "the most nodes in two fns", u)
	u.Fns[1].Nodes = filled(impl.MaxNodes - len(u.Fns[0].Nodes) + 1)
	want(t, "too many nodes in two fns", u, impl.Fault{Code: 1})
}

// heads are changes to what a fn has beside its nodes that hold for fn 0 as for any other.
var heads = []struct {
	what string
	fits bool
	put  func(fn *impl.Fn)
}{
	{"no nodes", false, func(fn *impl.Fn) { fn.Nodes = nil }},
	{"an empty list of nodes", false, func(fn *impl.Fn) { fn.Nodes = []impl.Node{} }},
	{"the most vars", true, func(fn *impl.Fn) { fn.Vars = names(impl.MaxVars) }},
	{"too many vars", false, func(fn *impl.Fn) { fn.Vars = names(impl.MaxVars + 1) }},
	{"params below 0", false, func(fn *impl.Fn) { fn.Params = -1 }},
	{"the least params", false, func(fn *impl.Fn) { fn.Params = math.MinInt }},
	{"the greatest params", false, func(fn *impl.Fn) { fn.Params = math.MaxInt }},
	{"params without vars", false, func(fn *impl.Fn) { fn.Params = 1 }},
	{"line 0", true, func(fn *impl.Fn) { fn.Line = 0 }},
	{"the last line", true, func(fn *impl.Fn) { fn.Line = impl.MaxLine }},
	{"a line too far", false, func(fn *impl.Fn) { fn.Line = impl.MaxLine + 1 }},
	{"a line below 0", false, func(fn *impl.Fn) { fn.Line = -1 }},
	{"the least line", false, func(fn *impl.Fn) { fn.Line = math.MinInt }},
	{"the greatest line", false, func(fn *impl.Fn) { fn.Line = math.MaxInt }},
	{"no name", true, func(fn *impl.Fn) { fn.Name = "" }},
	{"the longest name", true, func(fn *impl.Fn) { fn.Name = longText(impl.MaxName) }},
	{"a name too long", false, func(fn *impl.Fn) { fn.Name = longText(impl.MaxName + 1) }},
	{"a name too long in bytes", false, func(fn *impl.Fn) { fn.Name = strings.Repeat("\u00e9", impl.MaxName/2+1) }},
	{"a var of one byte", true, func(fn *impl.Fn) { fn.Vars = []string{"a"} }},
	{"a var of a zero byte", true, func(fn *impl.Fn) { fn.Vars = []string{"\x00"} }},
	{"two vars of one name", true, func(fn *impl.Fn) { fn.Vars = []string{"a", "a"} }},
	{"a var without a name", false, func(fn *impl.Fn) { fn.Vars = []string{"a", ""} }},
	{"a var with the longest name", true, func(fn *impl.Fn) { fn.Vars = []string{longText(impl.MaxName)} }},
	{"a var with a name too long", false, func(fn *impl.Fn) { fn.Vars = []string{"a", longText(impl.MaxName + 1)} }},
	{"rest", true, func(fn *impl.Fn) { fn.Rest = true }},
}

func TestHeads(t *testing.T) {
	for _, row := range heads {
		for f := range 3 {
			u := chain(3)
			row.put(&u.Fns[f])
			if row.fits {
				valid(t, fmt.Sprint("fn ", f, ": ", row.what), u)
			} else {
				want(t, fmt.Sprint("fn ", f, ": ", row.what), u, impl.Fault{Code: 2, Fn: f})
			}
		}
	}
}

func TestParams(t *testing.T) {
	u := chain(2)
	u.Fns[1].Vars = names(3)
	for params := -1; params <= 4; params++ {
		u.Fns[1].Params = params
		if 0 <= params && params <= 3 {
			valid(t, fmt.Sprint(params, " params"), u)
		} else {
			want(t, fmt.Sprint(params, " params"), u, impl.Fault{Code: 2, Fn: 1})
		}
	}
	u.Fns[1].Vars, u.Fns[1].Params = names(impl.MaxVars), impl.MaxVars
	valid(t, "as many params as there can be vars", u)
}

func TestTheTextItself(t *testing.T) {
	u := text(1, giveBack())
	u.Fns[0].Params = 1
	want(t, "params of fn 0", u, impl.Fault{Code: 2})
	u = text(1, giveBack())
	u.Fns[0].Ups = []impl.Up{local(0)}
	want(t, "a local up of fn 0", u, impl.Fault{Code: 2})
	u.Fns[0].Ups = []impl.Up{outer(0)}
	want(t, "an up of fn 0", u, impl.Fault{Code: 2})
}

func TestNumberOfUps(t *testing.T) {
	u := text(1, let(0, none()), do(closure(1)))
	u.Fns = append(u.Fns, plain())
	for range impl.MaxVars {
		u.Fns[1].Ups = append(u.Fns[1].Ups, local(0))
	}
	valid(t, "the most ups", u)
	u.Fns[1].Vars = names(impl.MaxVars)
	valid(t, "the most ups and the most vars", u)
	u.Fns[1].Ups = append(u.Fns[1].Ups, local(0))
	want(t, "too many ups", u, impl.Fault{Code: 2, Fn: 1})
}
