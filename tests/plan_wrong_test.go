package tests

import (
	"fmt"
	"math"
	"slices"
	"testing"
	"time"

	"loop.example/draft/impl"
)

// plannable is a unit of three fns that all have something to tell.
func plannable() impl.Unit {
	return withFns(text(2, let(0), let(1), do(closure(1))),
		impl.Fn{Params: 1, Rest: true, Vars: names(3), Ups: []impl.Up{local(1)}, Nodes: nodesOf(block(let(2), do(closure(2))))},
		impl.Fn{Params: 2, Vars: names(2), Ups: []impl.Up{local(0), outer(0)}, Nodes: nodesOf(block())},
	)
}

// faulty are units with a fault of each code; the fns that have none themselves have plans in a valid unit.
func faulty() map[int][]impl.Unit {
	out := map[int][]impl.Unit{}
	put := func(code int, spoil func(u *impl.Unit)) {
		u := plannable()
		spoil(&u)
		out[code] = append(out[code], u)
	}
	put(1, func(u *impl.Unit) { u.Fns = nil })
	put(1, func(u *impl.Unit) { u.Fns = []impl.Fn{} })
	put(1, func(u *impl.Unit) {
		for len(u.Fns) <= impl.MaxFns {
			u.Fns = append(u.Fns, plain())
		}
	})
	put(1, func(u *impl.Unit) { u.Fns[2].Nodes = filled(impl.MaxNodes) })
	for f := range 3 {
		put(2, func(u *impl.Unit) { u.Fns[f].Nodes = nil })
		put(2, func(u *impl.Unit) { u.Fns[f].Params = -1 })
		put(2, func(u *impl.Unit) { u.Fns[f].Params = math.MaxInt })
		put(2, func(u *impl.Unit) { u.Fns[f].Vars = names(impl.MaxVars + 1) })
		put(2, func(u *impl.Unit) { u.Fns[f].Vars[0] = "" })
		put(2, func(u *impl.Unit) { u.Fns[f].Ups = make([]impl.Up, impl.MaxVars+1) })
		put(2, func(u *impl.Unit) { u.Fns[f].Line = -1 })
		put(2, func(u *impl.Unit) { u.Fns[f].Name = longText(impl.MaxName + 1) })
		for code := 3; code <= 8; code++ {
			put(code, func(u *impl.Unit) {
				made, at := giveBack(), 0
				if f < 2 {
					made = do(closure(f + 1))
				}
				fn := &u.Fns[f]
				fn.Rest = fn.Rest && code != 8
				bad := broken(code, &at)
				if code == 6 {
					bad = giveBack(one(), variable(len(fn.Vars)-1), variable(len(fn.Vars)))
				}
				if f == 0 {
					fn.Nodes = nodesOf(block(let(0), let(1), bad, made))
				} else {
					fn.Nodes = nodesOf(block(bad, made))
				}
			})
		}
		put(9, func(u *impl.Unit) { u.Fns = append(u.Fns, plain()) })
	}
	put(3, func(u *impl.Unit) { u.Fns[0].Nodes[0].Kids = []int{-1} })
	put(3, func(u *impl.Unit) { u.Fns[0].Nodes[0].Kids = []int{math.MaxInt} })
	put(6, func(u *impl.Unit) { u.Fns[0].Nodes[0].Refs = []int{-1} })
	put(6, func(u *impl.Unit) { u.Fns[0].Nodes[0].Refs = []int{math.MinInt} })
	put(6, func(u *impl.Unit) { u.Fns[0].Nodes[0].Refs = []int{2} })
	put(6, func(u *impl.Unit) { u.Fns[1].Nodes[1].Refs = []int{math.MaxInt} })
	put(8, func(u *impl.Unit) { u.Fns[1].Ups[0].Index = -1 })
	put(8, func(u *impl.Unit) { u.Fns[1].Ups[0].Index = 2 })
	put(8, func(u *impl.Unit) { u.Fns[2].Ups[0].Index = 1 })
	put(8, func(u *impl.Unit) { u.Fns[2].Ups[1].Index = 1 })
	return out
}

func TestPlansOfWrongUnits(t *testing.T) {
	units := faulty()
	for code := 1; code <= 9; code++ {
		if len(units[code]) == 0 {
			t.Errorf("no unit with code %d", code)
		}
		for i, u := range units[code] {
			what := fmt.Sprint("code ", code, ", unit ", i)
			if got := impl.CheckUnit(u); got.Code != code {
				t.Errorf("%s: the fault is %v", what, got)
			}
			for f := range u.Fns {
				wantNothing(t, fmt.Sprint(what, ", fn ", f), u, f)
			}
			for _, f := range fnsThatAreNot(len(u.Fns)) {
				wantNothing(t, fmt.Sprint(what, ", fn ", f), u, f)
			}
		}
	}
}

func TestPlansOfFnsThatAreNot(t *testing.T) {
	for _, u := range []impl.Unit{plannable(), text(0), text(3, let(1)), chain(impl.MaxFns)} {
		valid(t, "a unit", u)
		for _, f := range fnsThatAreNot(len(u.Fns)) {
			wantNothing(t, fmt.Sprint("fn ", f), u, f)
		}
	}
	for _, f := range []int{0, 1, -1, math.MinInt, math.MaxInt} {
		wantNothing(t, fmt.Sprint("fn ", f, " of no fns"), impl.Unit{}, f)
		wantNothing(t, fmt.Sprint("fn ", f, " of an empty list"), impl.Unit{Fns: []impl.Fn{}}, f)
	}
	u := plannable()
	wantHomes(t, "fn 0", u, 0, 0, 1)
	wantHomes(t, "fn 1", u, 1, 0, -1, 2)
	wantHomes(t, "fn 2", u, 2, 0, 1)
	wantCaptured(t, "fn 0", u, 0, 1)
	wantCaptured(t, "fn 1", u, 1, 0)
	wantCaptured(t, "fn 2", u, 2)
}

// A fault in one fn takes the plans of all.
func TestPlansHangOnTheWholeUnit(t *testing.T) {
	u := plannable()
	for f := range u.Fns {
		if len(homes(t, u, f)) == 0 || len(captured(t, u, f)) == 0 {
			t.Errorf("fn %d has no plans", f)
		}
	}
	u.Fns[2].Nodes[0].Line = 0
	for f := range u.Fns {
		wantNothing(t, fmt.Sprint("fn ", f), u, f)
	}
}

// Behind the lists of a unit may lie what is the caller's; the answers are new memory.
func TestPlansShareNoMemory(t *testing.T) {
	room := plannable()
	room.Fns = append(room.Fns, impl.Fn{Name: "behind"})[:3]
	for f := range room.Fns {
		fn := &room.Fns[f]
		fn.Vars = append(fn.Vars, "behind")[:len(fn.Vars)]
		fn.Ups = append(fn.Ups, local(99))[:len(fn.Ups)]
		fn.Nodes = append(fn.Nodes, impl.Node{Kind: 99})[:len(fn.Nodes)]
		for n := range fn.Nodes {
			x := &fn.Nodes[n]
			x.Refs = append(x.Refs, 99)[:len(x.Refs)]
			x.Kids = append(x.Kids, 99)[:len(x.Kids)]
		}
	}
	whole := room.Fns[:4]
	for f := range room.Fns {
		capt, home := captured(t, room, f), homes(t, room, f)
		first, second := impl.Homes(room, f), impl.Captured(room, f)
		for v := range first {
			first[v], second[v] = -7, !second[v]
		}
		first, second = append(first, -7), append(second, true)
		if !slices.Equal(impl.Homes(room, f), home) || !slices.Equal(impl.Captured(room, f), capt) {
			t.Errorf("fn %d: an answer changed with another", f)
		}
		kept := impl.Homes(room, f)
		room.Fns[f].Vars[0] = "other"
		if !slices.Equal(kept, home) {
			t.Errorf("fn %d: an answer changed with the unit", f)
		}
	}
	for f, fn := range room.Fns {
		if fn.Vars[:len(fn.Vars)+1][len(fn.Vars)] != "behind" || fn.Ups[:len(fn.Ups)+1][len(fn.Ups)] != local(99) ||
			fn.Nodes[:len(fn.Nodes)+1][len(fn.Nodes)].Kind != 99 {
			t.Errorf("fn %d: something was written behind a list", f)
		}
		for n, x := range fn.Nodes {
			if x.Refs[:len(x.Refs)+1][len(x.Refs)] != 99 || x.Kids[:len(x.Kids)+1][len(x.Kids)] != 99 {
				t.Errorf("fn %d, node %d: something was written behind a list", f, n)
			}
		}
	}
	if whole[3].Name != "behind" {
		t.Error("something was written behind the fns")
	}
}

// The names of variables say nothing.
func TestPlansGoByNumber(t *testing.T) {
	u := withFns(text(4, let(0), block(let(1), do(closure(1))), let(2)), plain(local(1)))
	u.Fns[0].Vars = []string{"a", "a", "a", "a"}
	wantHomes(t, "one name", u, 0, 0, 1, 1, -1)
	wantCaptured(t, "one name", u, 0, 1)
}

func TestPlansOfTheMostVars(t *testing.T) {
	const most = impl.MaxVars
	up, down, nothing := make([]int, most), make([]int, most), make([]int, most)
	var behind, within []tree
	for v := range most {
		up[v], down[v], nothing[v] = v, most-1-v, -1
		behind = append(behind, let(v))
		within = append(within, block(let(v)))
	}
	turned := slices.Clone(behind)
	slices.Reverse(turned)
	wantHomes(t, "one behind the other", text(most, behind...), 0, up...)
	wantHomes(t, "the last first", text(most, turned...), 0, down...)
	wantHomes(t, "in one let", text(most, lets(up...)), 0, up...)
	wantHomes(t, "in one let, turned", text(most, lets(down...)), 0, down...)
	wantHomes(t, "none declared", text(most), 0, nothing...)
	wantHomes(t, "each in a block of its own", text(most, within...), 0, make([]int, most)...)
	u := withFns(text(0, do(closure(1))), impl.Fn{Params: most, Rest: true, Vars: names(most), Nodes: nodesOf(block())})
	wantHomes(t, "parameters", u, 1, up...)
	wantHomes(t, "the text around them", u, 0)
}

// great is a unit with the most fns, of which all but the text close over as much as there can be.
func great() impl.Unit {
	var all []int
	for v := range impl.MaxVars {
		all = append(all, v)
	}
	u := text(impl.MaxVars)
	body := []tree{lets(all...)}
	for g := 1; g < impl.MaxFns; {
		x := giveBack()
		for ; g < impl.MaxFns && len(x.kids) < impl.MaxKids; g++ {
			x.kids = append(x.kids, closure(g))
		}
		body = append(body, x)
	}
	u.Fns[0].Nodes = nodesOf(block(body...))
	for range impl.MaxFns - 1 {
		fn := plain()
		fn.Vars = names(impl.MaxVars)
		for v := range impl.MaxVars {
			fn.Ups = append(fn.Ups, local(v))
		}
		u.Fns = append(u.Fns, fn)
	}
	left := impl.MaxNodes
	for _, fn := range u.Fns {
		left -= len(fn.Nodes)
	}
	u.Fns[7].Nodes = filled(left + 1)
	return u
}

// linked is a unit with the most fns, each made in the one ahead of it, of which each closes over all variables of that one.
func linked() impl.Unit {
	u := chain(impl.MaxFns)
	for f := range u.Fns {
		fn := &u.Fns[f]
		var all []int
		for v := range impl.MaxVars {
			all = append(all, v)
			if f > 0 {
				fn.Ups = append(fn.Ups, local(v))
			}
		}
		fn.Vars = names(impl.MaxVars)
		if f+1 < len(u.Fns) {
			fn.Nodes = nodesOf(block(lets(all...), giveBack(closure(f+1))))
		}
	}
	return u
}

// The greatest units are answered in a time that is short even on a slow machine, for all of their fns.
func TestPlansOfTheGreatestUnits(t *testing.T) {
	var around []holder
	for range 48 {
		around = append(around, holders[13])
	}
	deep, want := hold(around, 0)
	long := text(impl.MaxVars)
	long.Fns[0].Nodes = filled(impl.MaxNodes)
	for i, u := range []impl.Unit{great(), linked(), text(len(want), deep), long} {
		if fault := impl.CheckUnit(u); fault != (impl.Fault{}) {
			t.Fatalf("unit %d: %v", i, fault)
		}
		begin := time.Now()
		for f, fn := range u.Fns {
			capt, home := impl.Captured(u, f), impl.Homes(u, f)
			if len(capt) != len(fn.Vars) || len(home) != len(fn.Vars) {
				t.Errorf("unit %d, fn %d: %d and %d elements", i, f, len(capt), len(home))
			}
			closed := i == 0 && f == 0 || i == 1 && f+1 < impl.MaxFns
			if slices.Contains(capt, !closed) {
				t.Errorf("unit %d, fn %d: captured are %v", i, f, capt)
			}
		}
		if took := time.Since(begin); took > 10*time.Second {
			t.Errorf("unit %d: %v", i, took)
		} else {
			t.Logf("unit %d: %v for %d fns", i, took, len(u.Fns))
		}
		planned(t, u, impl.Fault{})
	}
}
