package tests

import (
	"fmt"
	"slices"
	"strings"
	"testing"

	"loop.example/draft/impl"
)

// junk are lines that no verifier would let pass where they can be reached, and all of which go.
var junk = []string{
	"- Tick\n",
	"- Line 3; - At 0; - Move 1 ~5\n",
	"- Return 0\n",
	"- EndTry; - Leave; - EndTry\n",
	"- Try one 0; - one: Throw 6\n",
	"- Scope 0; - Scope 0; - two: If 4 two; - Jump two\n",
	"- Call 0 ~1 ~1; - Return ~0; - Throw ~0\n",
	"- Jump end\n",
	"- If 0 end; - Unless 0 0; - Jump 0\n",
	"- Try end 3; - EachNext 0 end 0; - ForNext 0 end; - ForTest 5 end; - Jump end\n",
}

func TestTidyTakesWhatIsNotReached(t *testing.T) {
	for i, x := range junk {
		for j, y := range junk {
			x, y := x, strings.NewReplacer("one", "one2", "two", "two2").Replace(y)
			what := fmt.Sprint("junk ", i, " and ", j)
			tidiesTo(t, what+" behind instruction 0", "Jump a\n"+x+"a: Tick; At 9\n- Jump end\n"+y+"end: "+ends)
			tidiesTo(t, what+" behind a return", "Const 0 0; If 0 end; List 1; Return ~1\n"+x+"end: Throw 0\n"+y+"- Throw 1")
			tidiesTo(t, what+" behind a throw", "Const 0 0; If 0 a; Throw 0\n"+x+"end: List 1; Return 1\n"+y+"a: Tick; Jump end")
			tidiesTo(t, what+" on both sides of a loop", "Const 0 0; Jump a\n"+x+"b: Tick; a: If 0 b\n- Jump end\n"+y+"- Throw 2; end: Unless 0 b; "+ends)
		}
	}
	tidiesTo(t, "nothing goes", "Const 0 0; a: Line 1; At 2; Tick; If 0 a; Unless 0 b; Throw 0; b: "+ends)
	tidiesTo(t, "the shortest code", ends)
	tidiesTo(t, "one jump to a tick", "Tick; Jump 0")
}

// Each Op that can go on elsewhere reaches that instruction; each but IJump, IReturn and IThrow reaches the next one.
func TestTidyReachesAllFollowers(t *testing.T) {
	for _, g := range goers {
		tidiesTo(t, opNames[g.op], g.text("far")+"- Tick; - Throw 3\nfar: "+ends)
	}
	c := alone(everyOp()...)
	verified(t, "every Op", c)
	got := tidied(t, "every Op", c)
	wantProto(t, "every Op in one row", got.Protos[0], c.Protos[0])
	for op := 1; op <= opCount; op++ {
		there := slices.ContainsFunc(c.Protos[0].Ins, func(x impl.Ins) bool { return x.Op == op })
		apart := []int{impl.IJump, impl.IFn, impl.IUpGet, impl.IUpPut}
		if there == slices.Contains(apart, op) {
			t.Errorf("%s is in the row: %v", opNames[op], there)
		}
	}
}

// everyOp is a row of instructions with each Op that can stand alone in a proto, each reached only by the one ahead of it.
func everyOp() []impl.Ins {
	a := &assembler{}
	return a.read(`
		Line 1; At 2; Tick
		Const 0 0; Move 1 0; Box 2 ~1; Get 1 2; Put 2 1
		Table 3; Raw 3 0 0; List 4; RawAll 3 0 ~4; Index 4 3 0; Set 3 0 ~4
		Unary 4 21 0; Binary 4 1 0 ~4; Drop 4
		If 0 end; Unless 0 end
		List 4; Add 4 0; List 5; Join 4 ~5; First 5 4; Pick 5 4 0; Copy 6 4; Call 6 5 ~6; Drop 5; Drop 6; Drop 4
		Try handler 4; EndTry
		Scope 4; Keep 4; List 4; Defer 0 ~4; Leave
		Const 4 0; Const 5 0; Const 6 0; For 4; ForTest 4 loops; ForNext 4 loops
		loops: Drop 5; Drop 6; Each 4; EachNext 4 over 6; Drop 6; over: Drop 4; Drop 5
		end: List 4; Return ~4
		handler: Throw 5`)
}

func TestTidyReachesHandlers(t *testing.T) {
	tidiesTo(t, "a handler alone", "Try h 0; EndTry; "+ends+"- Tick\n- Throw 4\nh: Tick; Throw 1\n- Tick; - Jump h")
	tidiesTo(t, "a handler ahead of its guard", "Jump on; h: Tick; Throw 1; - Tick\n on: Try h 0; EndTry; "+ends)
	tidiesTo(t, "all behind a handler", `
		Try h 0
		EndTry
		`+ends+`
		- Jump far
		h: If 0 far
		Throw ~0
		- far2: Throw 3
		far: Tick
		Jump hop>h
		- hop: Jump h`)
	tidiesTo(t, "a handler in a handler", `
		Try h 0; Tick; EndTry; Jump done
		- Tick
		h: Drop 0; Drop 1; Try g 2; Tick; EndTry; Jump done
		- Jump g
		g: Throw 3
		- Jump h
		done: `+ends)
	tidiesTo(t, "a guard that is not reached reaches no handler", ends+"- Try h 0; - EndTry; - Jump 0; - h: Tick; - Throw 1")
}

// Jumps that can be reached at first, and behind the first rule no longer.
func TestTidyTakesWhatIsNoLongerReached(t *testing.T) {
	tidiesTo(t, "one", "Const 0 0; If 0 hop>end; Throw 0; - hop: Jump end; end: Throw 0")
	tidiesTo(t, "one, at the end", "Const 0 0; end: Tick; If 0 hop>end; Throw 0; - hop: Jump end")
	tidiesTo(t, "several, in other orders", `
		Const 0 0
		If 0 c>end
		If 0 a>end
		Throw 0
		- a: Jump b
		- c: Jump a
		end: Tick
		Throw 0
		- b: Jump end`)
	tidiesTo(t, "one that is come to by another as well", `
		Const 0 0
		If 0 hop>end
		Tick
		hop: Jump end
		back: Throw 0
		end: If 0 back
		Throw 0`)
}

// fnsBehindTheEnd is a code whose proto 0 makes so many fns ahead of its end and so many behind it; there is something to tidy in each fn.
func fnsBehindTheEnd(reached, unreached int) impl.Code {
	first := proto(8)
	for i := range reached {
		first.Ins = append(first.Ins, in(impl.IFn, 0, i+1), in(impl.IJump, len(first.Ins)+2))
	}
	first.Ins = append(first.Ins, in(impl.IList, 1), in(impl.IReturn, took(1)), in(impl.IJump, 0))
	for i := range unreached {
		first.Ins = append(first.Ins, in(impl.IFn, 0, reached+i+1))
	}
	first.Ins = append(first.Ins, in(impl.IJump, len(first.Ins)))
	for i := range first.Ins {
		first.Named = append(first.Named, impl.Named{Name: "n", Reg: i % 8, From: i, To: len(first.Ins)})
	}
	c := code(first)
	for range reached + unreached {
		c.Protos = append(c.Protos, readTidying("Jump on; - Tick; on: Tick; - Jump end; - Throw 0; end: "+ends).before)
	}
	return c
}

func TestTidyLeavesProtosWithFnsThatAreNotReached(t *testing.T) {
	inner := readTidying("Jump on; - Tick; on: Tick; - Jump end; - Throw 0; end: " + ends)
	for reached := range 4 {
		for unreached := range 4 {
			what := fmt.Sprint(reached, " fns are reached, ", unreached, " not")
			c := fnsBehindTheEnd(reached, unreached)
			verified(t, what, c)
			got := tidied(t, what, c)
			if len(got.Protos) != len(c.Protos) {
				t.Fatalf("%s: %d protos", what, len(got.Protos))
			}
			if unreached > 0 {
				wantProto(t, what, got.Protos[0], c.Protos[0])
			} else if len(got.Protos[0].Ins) != reached+2 {
				t.Errorf("%s: %d instructions: %s", what, len(got.Protos[0].Ins), written(got.Protos[0].Ins))
			}
			for _, p := range got.Protos[1:] {
				wantProto(t, what+", a fn", p, inner.after)
			}
		}
	}
}

// What stays as it was does so wherever in the code it stands, with what its jumps named at first.
func TestTidyLeavesProtosInTheMiddle(t *testing.T) {
	middle := proto(3, in(impl.IJump, 2), in(impl.IFn, 0, 2), in(impl.IJump, 3), in(impl.IJump, 4), in(impl.IList, 0), in(impl.IReturn, took(0)), in(impl.IJump, 6))
	middle.Params, middle.Rest, middle.Line, middle.Name = 1, true, 77, "middle"
	middle.Ups = []impl.Up{local(0), local(0)}
	middle.Consts = []impl.Value{{}, {Kind: impl.KStr, Str: "text"}, {Kind: impl.KBuiltin, Num: 3}}
	middle.Named = []impl.Named{{Name: "a", Reg: 0, From: 0, To: 7}, {Name: "b", Reg: 2, From: 1, To: 2}, {Name: "c", Reg: 1, From: 7, To: 7}}
	first := readTidying("Const 0 0; Box 0 ~0; - Jump a; a: Fn 1 1; - Jump b; - Tick; b: Throw ~1")
	last := readTidying("Tick; - Jump b; - Tick; b: " + ends)
	last.before.Ups, last.after.Ups = []impl.Up{outer(1), local(2), outer(0)}, []impl.Up{outer(1), local(2), outer(0)}
	c := code(first.before, middle, last.before)
	verified(t, "the middle one", c)
	got := tidied(t, "the middle one", c)
	for i, want := range []impl.Proto{first.after, middle, last.after} {
		wantProto(t, fmt.Sprint("proto ", i), got.Protos[i], want)
	}
}

// A fn that is made only where a jump leads, or a guard, is one that can be reached.
func TestTidyOfFnsThatAreReached(t *testing.T) {
	tidiesTo(t, "through a jump", "Jump a; - Tick; a: Fn 0 1; Throw ~0; - Tick; - Throw 0")
	tidiesTo(t, "through several", "Const 0 0; If 0 a>c; Throw 0; - a: Jump b; - b: Jump c; - Tick; c: Fn 0 1; Throw ~0; - Jump a")
	tidiesTo(t, "through a guard", "Try h 0; EndTry; "+ends+"- Jump h; h: Fn 0 1; Throw ~0; - Tick; - Jump h")
	tidiesTo(t, "two ways", "Const 0 0; If 0 a; Fn 1 1; Throw 1; - Tick; a: Fn 1 2; - Jump b; - Tick; b: Throw ~1")
}
