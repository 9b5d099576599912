package tests

import (
	"fmt"
	"math"
	"slices"
	"testing"

	"loop.example/draft/impl"
)

// captured asks twice, writes into the first answer ahead of the second, and sees to it that this changes nothing.
func captured(t *testing.T, u impl.Unit, f int) []bool {
	t.Helper()
	before := show(u)
	spoilt := impl.Captured(u, f)
	got := slices.Clone(spoilt)
	for v := range spoilt {
		spoilt[v] = !spoilt[v]
	}
	if again := impl.Captured(u, f); !slices.Equal(again, got) {
		t.Errorf("two answers: %v, then %v", got, again)
	}
	if show(u) != before {
		t.Error("the unit was changed")
	}
	return got
}

// homes does the same for Homes.
func homes(t *testing.T, u impl.Unit, f int) []int {
	t.Helper()
	before := show(u)
	spoilt := impl.Homes(u, f)
	got := slices.Clone(spoilt)
	for v := range spoilt {
		spoilt[v] += 1000
	}
	if again := impl.Homes(u, f); !slices.Equal(again, got) {
		t.Errorf("two answers: %v, then %v", got, again)
	}
	if show(u) != before {
		t.Error("the unit was changed")
	}
	return got
}

func wantHomes(t *testing.T, what string, u impl.Unit, f int, want ...int) {
	t.Helper()
	valid(t, what, u)
	if got := homes(t, u, f); !slices.Equal(got, want) {
		t.Errorf("%s: homes are %v, want %v", what, got, want)
	}
}

// wantCaptured asks that of the variables of fn f just these are closed over.
func wantCaptured(t *testing.T, what string, u impl.Unit, f int, vars ...int) {
	t.Helper()
	valid(t, what, u)
	want := make([]bool, len(u.Fns[f].Vars))
	for _, v := range vars {
		want[v] = true
	}
	if got := captured(t, u, f); !slices.Equal(got, want) {
		t.Errorf("%s: captured are %v, want %v", what, got, want)
	}
}

func wantNothing(t *testing.T, what string, u impl.Unit, f int) {
	t.Helper()
	if got := captured(t, u, f); len(got) != 0 {
		t.Errorf("%s: captured are %v, want nothing", what, got)
	}
	if got := homes(t, u, f); len(got) != 0 {
		t.Errorf("%s: homes are %v, want nothing", what, got)
	}
}

// fnsThatAreNot are numbers of which a unit with so many fns has none.
func fnsThatAreNot(fns int) []int {
	return []int{-1, fns, fns + 1, -fns - 1, math.MinInt, math.MaxInt, 1 << 32, -1 << 32}
}

// planned sees to it that the plans of a unit are what the promise says of all units: check calls it, and so it is asked of each unit of the tests.
func planned(t *testing.T, u impl.Unit, fault impl.Fault) {
	t.Helper()
	for _, f := range fnsThatAreNot(len(u.Fns)) {
		if len(impl.Captured(u, f)) != 0 || len(impl.Homes(u, f)) != 0 {
			t.Errorf("fn %d, which there is not, has plans", f)
		}
	}
	o := newOracle(u)
	for f := range u.Fns {
		capt, home := impl.Captured(u, f), impl.Homes(u, f)
		if fault != (impl.Fault{}) {
			if len(capt) != 0 || len(home) != 0 {
				t.Errorf("fn %d of a unit with %v has plans", f, fault)
			}
			continue
		}
		if wrong := o.wrongHomes(f, capt, home); wrong != "" {
			t.Errorf("fn %d: captured %v, homes %v: %s", f, capt, home, wrong)
		}
	}
}

// wrongHomes says what is wrong with the plans of fn f of a valid unit, as far as the promise tells it of every unit; nothing when it is right.
func (o oracle) wrongHomes(f int, capt []bool, home []int) string {
	fn := o.u.Fns[f]
	if len(capt) != len(fn.Vars) || len(home) != len(fn.Vars) {
		return "not one element for each of the Vars"
	}
	for v := range fn.Vars {
		if v < fn.Params && home[v] != v {
			return fmt.Sprintf("parameter %d is not at home in its number", v)
		}
		if (home[v] == -1) != !o.declared(f, v) || home[v] < -1 {
			return fmt.Sprintf("variable %d has a home or has none", v)
		}
	}
	for n := range fn.Nodes {
		owner := map[int]int{}
		if fn.Rest {
			owner[fn.Params] = -1
		}
		for _, v := range o.seenAt(f, n) {
			if other, taken := owner[home[v]]; taken {
				return fmt.Sprintf("variables %d and %d (-1: the rest) are both in %d at node %d", other, v, home[v], n)
			}
			owner[home[v]] = v
		}
	}
	return ""
}

func (o oracle) declared(f, v int) bool {
	fn := o.u.Fns[f]
	return v < fn.Params || slices.ContainsFunc(fn.Nodes, func(x impl.Node) bool {
		return slices.Contains(declaring, x.Kind) && slices.Contains(x.Refs, v)
	})
}

// seenAt are the variables that are in scope at node n, and what it declares itself, as that comes to stand beside them.
func (o oracle) seenAt(f, n int) (seen []int) {
	fn := o.u.Fns[f]
	for p := range fn.Params {
		seen = append(seen, p)
	}
	if slices.Contains(declaring, fn.Nodes[n].Kind) {
		seen = append(seen, fn.Nodes[n].Refs...)
	}
	for _, step := range o.path(f, n) {
		x := fn.Nodes[step[0]]
		switch x.Kind {
		case impl.NBlock:
			for _, ahead := range x.Kids[:step[1]] {
				if fn.Nodes[ahead].Kind == impl.NLet {
					seen = append(seen, fn.Nodes[ahead].Refs...)
				}
			}
		case impl.NFor, impl.NEach, impl.NTry:
			if step[1] == len(x.Kids)-1 {
				seen = append(seen, x.Refs...)
			}
		}
	}
	return seen
}
