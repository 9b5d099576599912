package tests

import (
	"fmt"
	"strings"
	"testing"

	"loop.example/draft/impl"
)

// goer is an Op with a target that is followed: what stands ahead of it, and it itself, going on at to.
type goer struct {
	op    int
	ahead string
	ins   string
}

var goers = []goer{
	{impl.IJump, "Const 0 0; If 0 other", "Jump to"},
	{impl.IIf, "Const 0 0", "If 0 to"},
	{impl.IUnless, "Const 0 0", "Unless ~0 to"},
	{impl.IForTest, "Const 0 0; Const 1 0; Const 2 0; For 0", "ForTest 0 to"},
	{impl.IForNext, "Const 0 0; Const 1 0; Const 2 0", "ForNext 0 to"},
	{impl.IEachNext, "Const 0 0; Each 0", "EachNext 0 to 2"},
}

// text is the goer with this target; behind it the call ends.
func (g goer) text(to string) string {
	return g.ahead + "\n" + strings.Replace(g.ins, "to", to, 1) + "\nother: Const 7 1; Throw ~7\n"
}

const ends = "List 7; Return ~7\n"

// With more than a hundred jumps, every hundred and first is where what comes from ahead is left: that one stays.
const stride = 101

// jumpOf writes jump k of a chain of many, which ends at the label end; stays says whether those that can be reached stay, and do not go as they lead to the next one.
func jumpOf(k, many int, stays bool) string {
	label := func(k int) string {
		if k > many {
			return "end"
		}
		return fmt.Sprint("j", k)
	}
	if k%stride == 0 && stays {
		// Its own target is followed a hundred times too.
		return fmt.Sprintf("%s: Jump %s>%s\n", label(k), label(k+1), label(k+stride))
	}
	return fmt.Sprintf("- %s: Jump %s\n", label(k), label(k+1))
}

var chainLengths = []int{1, 2, 3, 5, 99, 100, 101, 102, 103, 150, 200, 201, 202, 203, 302, 303, 304, 404}

// firstLeft is where a target that begins a chain is led.
func firstLeft(many int) string {
	if many >= stride {
		return fmt.Sprint("j1>j", stride)
	}
	return "j1>end"
}

// Chains in which each jump leads to the next instruction, one that stands far ahead, or far behind, with the goer ahead of all of them or behind.
func TestTidyFollowsChains(t *testing.T) {
	t.Parallel()
	for _, g := range goers {
		for _, many := range chainLengths {
			what := fmt.Sprint(opNames[g.op], " through ", many)
			var down, up, between strings.Builder
			for k := 1; k <= many; k++ {
				down.WriteString(jumpOf(k, many, false))
				up.WriteString(jumpOf(many+1-k, many, true))
				// Every second one stands ahead of all others.
				at := 2 * k
				if at > many {
					at = 2*(k-many/2) - 1
				}
				between.WriteString(jumpOf(at, many, true))
			}
			tidiesTo(t, what+", downwards", g.text(firstLeft(many))+down.String()+"end: "+ends)
			tidiesTo(t, what+", upwards", g.text(firstLeft(many))+"end: "+ends+up.String())
			tidiesTo(t, what+", to and fro", g.text(firstLeft(many))+"end: "+ends+between.String())
			tidiesTo(t, what+", downwards, from behind", "Jump go\n"+down.String()+"end: "+ends+"go: "+g.text(firstLeft(many)))
			tidiesTo(t, what+", upwards, from behind", "Jump go\nend: "+ends+up.String()+"go: "+g.text(firstLeft(many)))
		}
	}
}

// A target that is no jump stays as it is, ahead and behind.
func TestTidyLeavesOtherTargets(t *testing.T) {
	for _, g := range goers {
		tidiesTo(t, opNames[g.op], g.text("end")+"- Jump end\n end: "+ends)
		tidiesTo(t, opNames[g.op]+" to an If", g.text("end")+"end: Const 7 0; If 7 stop; stop: Throw 7")
	}
	tidiesTo(t, "backwards", "Const 0 0; again: Tick; If 0 again; Unless 0 again; Jump again")
	tidiesTo(t, "backwards through a jump", `
		Const 0 0
		again: Tick
		If 0 back>again
		Unless 0 further>again
		Jump again
		- further: Jump back
		- back: Jump again`)
}

// All that leads to a jump is led on, whatever else leads there.
func TestTidyFollowsForAll(t *testing.T) {
	tidiesTo(t, "several to one", `
		Const 0 0
		If 0 a>end
		Unless 0 a>end
		If 0 b>end
		If 0 end
		Throw 0
		- a: Jump b
		- b: Jump end
		end: Throw ~0`)
	tidiesTo(t, "a jump that is come to from ahead as well", `
		Const 0 0
		If 0 a>end
		Tick
		a: Jump end
		other: Throw 0
		end: If 0 other
		Throw ~0`)
	tidiesTo(t, "through instruction 0", `
		Jump begin
		begin: Tick
		Const 0 0
		If ~0 hop>begin
		Jump 0>begin
		- hop: Jump 0`)
	tidiesTo(t, "to instruction 0, no jump", `
		Tick
		Const 0 0
		If ~0 hop>0
		`+ends+`
		- Jump hop
		- hop: Jump 0`)
}

// Where an IJump's target is taken as it stood at first, what is led on to it ends at another instruction than where it would end behind the jumps ahead of it were led on.
func TestTidyTargetsAsTheyStoodAtFirst(t *testing.T) {
	many := 150
	var list strings.Builder
	for k := 1; k <= many; k++ {
		list.WriteString(jumpOf(k, many, true))
	}
	// From j1 a hundred steps lead to j101, from j50 to j150, though j1 and j50 themselves are led to j102 and to the end.
	tidiesTo(t, "two into one chain", `
		Const 0 0
		If 0 j1>j101
		If 0 j50>j150
		If 0 j51>end
		Throw 0
		end: Throw ~0
		`+strings.Replace(list.String(), "- j150: Jump end", "j150: Jump end", 1))
}

func TestTidyRings(t *testing.T) {
	rings := []struct{ what, list string }{
		{"one that leads to itself", "- a: Jump a\n"},
		{"two", "- a: Jump b; - b: Jump a\n"},
		{"three", "- a: Jump c; - b: Jump a; - c: Jump b\n"},
		{"three with something that leads on to them", "- If 0 a; - Tick; - Unless 3 b; - Jump c; - a: Jump c; - b: Jump a; - c: Jump b\n"},
		{"a jump ahead of it", "- t: Jump a; - a: Jump a; - Jump t\n"},
		{"each that can go on there", "- If 0 a; - Unless 0 a; - ForTest 0 a; - ForNext 0 a; - EachNext 0 a 3; - Try a 0; - Jump a; - a: Jump a\n"},
		{"two of them, one within the other", "- a: Jump d; - b: Jump c; - c: Jump b; - d: Jump a\n"},
		{"what can be reached led on to as well", "- If 0 end; - a: Jump a; - Jump end\n"},
	}
	var long strings.Builder
	for k := range 250 {
		fmt.Fprintf(&long, "- k%d: Jump k%d\n", k, (k+7)%250)
	}
	rings = append(rings, struct{ what, list string }{"a long one", long.String()})
	for _, r := range rings {
		tidiesTo(t, r.what+", behind all", "Tick\n end: "+ends+r.list)
		tidiesTo(t, r.what+", between", "Tick\n- Jump end\n"+r.list+"end: "+ends)
		tidiesTo(t, r.what+", behind instruction 0", "Jump end\n"+r.list+"end: "+ends)
	}
}

// A guard goes on at its own instruction: that one is not followed, only what it leads to itself.
func TestTidyDoesNotFollowTries(t *testing.T) {
	tidiesTo(t, "a handler that is a jump", `
		Const 0 0
		Try h 2
		EndTry
		Throw ~0
		h: Jump a>end
		- a: Jump b
		- b: Jump end
		end: Drop 2
		Drop 3
		Throw 0`)
	tidiesTo(t, "a handler that leads back", `
		Const 0 0
		Jump on
		end: Drop 2
		Drop 3
		Throw 0
		- a: Jump end
		on: Try h 2
		EndTry
		Throw ~0
		h: Jump a>end`)
	for _, many := range []int{1, 50, 99, 100, 101, 102} {
		var list strings.Builder
		for k := 2; k <= many; k++ {
			list.WriteString(fmt.Sprintf("- j%d: Jump j%d\n", k, k+1))
		}
		first := "j1: Jump j2>end\n"
		if many == 1 {
			first = "j1: Jump j2\n"
		}
		last := fmt.Sprintf("end: j%d: ", many+1)
		if many == 102 {
			// From the second on there are a hundred and one of them: the last can be reached, and goes as it leads to the next one.
			first = "j1: Jump j2>j102\n"
		}
		tidiesTo(t, fmt.Sprint("a handler with ", many, " jumps"), "Const 0 0; Try j1 2; EndTry; Throw ~0\n"+first+list.String()+last+"Throw 2")
	}
	tidiesTo(t, "two guards, one handler", `
		Const 0 0
		Try h 2
		EndTry
		Try h 2
		EndTry
		Throw 0
		h: Jump h2>end
		- h2: Jump end
		end: Throw 2`)
}
