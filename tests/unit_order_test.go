package tests

import (
	"fmt"
	"slices"
	"testing"

	"loop.example/draft/impl"
)

// dice gives numbers that are always the same.
type dice uint64

func (d *dice) below(n int) int {
	*d = *d*6364136223846793005 + 1442695040888963407
	return int(uint64(*d) >> 33 % uint64(n))
}

// broken is a statement with a fault of this code, at the node that gets the mark.
func broken(code int, mark *int) tree {
	switch code {
	case 3:
		x := none().marked(mark)
		x.node.Str = "s"
		return giveBack(x)
	case 4:
		x := giveBack(none().marked(mark))
		x.twice = true
		return x
	case 5:
		x := none().marked(mark)
		for range impl.MaxNest - 1 {
			x = expr(impl.NUnary, x).op(impl.OpNot)
		}
		return giveBack(x)
	case 6:
		return giveBack(one(), variable(0).marked(mark))
	case 7:
		return stmt(impl.NBreak).marked(mark)
	case 8:
		return giveBack(one(), one(), expr(impl.NRest).marked(mark))
	}
	return giveBack(one())
}

const (
	slotFns   = 3
	slotsInFn = 3
)

// slots says which fault stands at which statement of which fn; 0 for none.
type slots [slotFns][slotsInFn]int

// build makes the unit, and answers its first fault as the list of faults has it. Turned, the statements of a body stand in the other order.
func (s slots) build(turned bool) (impl.Unit, impl.Fault) {
	u := impl.Unit{}
	var all []impl.Fault
	for f, codes := range s {
		var kids []tree
		var marks [slotsInFn]int
		for i, code := range codes {
			kids = append(kids, broken(code, &marks[i]))
		}
		if f+1 < slotFns {
			kids = append(kids, giveBack(closure(f+1)))
		}
		nodes := nodesOf(block(kids...))
		if turned {
			slices.Reverse(nodes[len(nodes)-1].Kids)
		}
		u.Fns = append(u.Fns, impl.Fn{Vars: names(1), Nodes: nodes})
		for i, code := range codes {
			if code > 0 {
				all = append(all, impl.Fault{Code: code, Fn: f, Node: marks[i]})
			}
		}
	}
	return u, leastOf(all)
}

func leastOf(all []impl.Fault) impl.Fault {
	best := impl.Fault{}
	for _, f := range all {
		ahead := f.Code < best.Code ||
			f.Code == best.Code && (f.Fn < best.Fn || f.Fn == best.Fn && f.Node < best.Node)
		if best.Code == 0 || ahead {
			best = f
		}
	}
	return best
}

func TestOrderOfTwoFaults(t *testing.T) {
	for a := range slotFns * slotsInFn {
		for b := range slotFns * slotsInFn {
			for i := 3; i <= 8; i++ {
				for j := 3; j <= 8; j++ {
					var s slots
					s[a/slotsInFn][a%slotsInFn] = i
					s[b/slotsInFn][b%slotsInFn] = j
					u, fault := s.build((a+b+i+j)%2 == 0)
					if got := impl.CheckUnit(u); got != fault {
						t.Errorf("%v: got %v, want %v", s, got, fault)
					}
					planned(t, u, fault)
				}
			}
		}
	}
}

func TestOrderOfManyFaults(t *testing.T) {
	d := dice(1)
	for range 3000 {
		var s slots
		lowest := 3 + d.below(6)
		for f := range s {
			for i := range s[f] {
				if code := d.below(9); code >= lowest {
					s[f][i] = code
				}
			}
		}
		u, fault := s.build(d.below(2) == 0)
		if got := impl.CheckUnit(u); got != fault {
			t.Errorf("%v: got %v, want %v", s, got, fault)
		}
		planned(t, u, fault)
	}
}

// The faults that have no node: of the whole, of a fn's head, of a fn that is never made.
func TestOrderOfFaultsWithoutNode(t *testing.T) {
	for code := 0; code <= 8; code++ {
		if code == 1 || code == 2 {
			continue
		}
		for f := range slotFns {
			var s slots
			s[f][1] = code
			u, fault := s.build(false)
			u.Fns = append(u.Fns, plain(), plain())
			if fault.Code == 0 {
				fault = impl.Fault{Code: 9, Fn: slotFns}
			}
			want(t, fmt.Sprint("never made, and ", code, " in ", f), u, fault)
			u.Fns[2].Name = longText(impl.MaxName + 1)
			want(t, fmt.Sprint("a head, never made, and ", code, " in ", f), u, impl.Fault{Code: 2, Fn: 2})
			u.Fns[1].Nodes = nil
			want(t, fmt.Sprint("two heads, never made, and ", code, " in ", f), u, impl.Fault{Code: 2, Fn: 1})
			for len(u.Fns) <= impl.MaxFns {
				u.Fns = append(u.Fns, plain())
			}
			want(t, fmt.Sprint("too many, and all of that, and ", code, " in ", f), u, impl.Fault{Code: 1})
		}
	}
}
