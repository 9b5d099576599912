package tests

import (
	"fmt"
	"strings"
	"testing"

	"loop.example/draft/impl"
)

func TestTidyTakesIdleJumps(t *testing.T) {
	tidiesTo(t, "to the next instruction", "Tick; - Jump a; a: "+ends)
	tidiesTo(t, "to the next that is left", "Tick; - Jump a; - Tick; - Throw 3; a: "+ends)
	tidiesTo(t, "to the one behind the next", "Const 0 0; If 0 a; Jump b; a: Tick; b: "+ends)
	tidiesTo(t, "to the next, led on to it", "Tick; - Jump a>c; - a: Jump b; - b: Jump c; c: "+ends)
	tidiesTo(t, "to the next, led on to it from far behind", "Tick; - Jump a>c; c: "+ends+"- a: Jump b; - Tick; - b: Jump c")
	tidiesTo(t, "several that are reached, apart", "Tick; - Jump a; a: Tick; - Jump b; - Tick; b: Tick; - Jump c; c: "+ends)
	tidiesTo(t, "backwards", "Tick; a: Tick; Jump a")
	tidiesTo(t, "the last one", "Tick; Jump 0")
	tidiesTo(t, "the last one that is left", "Tick; Jump 0; - Jump a; - a: Jump 0")
	tidiesTo(t, "the one ahead of itself", "Const 0 0; If 0 b>a; Jump c; a: Tick; b: Jump a; c: "+ends)
	tidiesTo(t, "one that others lead to", "Const 0 0; If 0 a>b; Unless 0 a>b; - a: Jump b; b: "+ends)
	tidiesTo(t, "one that others lead to from behind", "Const 0 0; - a: Jump b; b: Tick; If 0 a>b; Jump a>b")
}

// Only jumps go: what can go on at the next instruction for another reason stays.
func TestTidyLeavesOtherIdleInstructions(t *testing.T) {
	tidiesTo(t, "If and Unless", "Const 0 0; If 0 a; a: Unless 0 b; b: If ~0 c; c: "+ends)
	tidiesTo(t, "ForTest and ForNext", "Const 0 0; Const 1 0; Const 2 0; For 0; ForTest 0 a; a: ForNext 0 b; b: "+ends)
	tidiesTo(t, "EachNext", "Const 0 0; Each 0; List 2; EachNext 0 a 2; a: "+ends)
	tidiesTo(t, "Try", "Const 0 0; Const 1 0; Try a 0; - Jump b; b: EndTry; a: "+ends)
	tidiesTo(t, "If to the next that is left", "Const 0 0; If 0 b; - Jump b; - Tick; b: "+ends)
}

func TestTidyLeavesInstructionZero(t *testing.T) {
	tidiesTo(t, "to the next", "Jump a; a: "+ends)
	tidiesTo(t, "to the next that is left", "Jump a; - Tick; - Jump 0; a: "+ends)
	tidiesTo(t, "through others", "Jump a>c; - a: Jump b; - b: Jump c; c: "+ends)
	tidiesTo(t, "to the next, and others to it", "Jump a; a: Tick; Const 0 0; If ~0 0>a; Jump 0>a")
	tidiesTo(t, "and the one behind it", "Jump a>b; - a: Jump b; b: "+ends)
	tidiesTo(t, "and one far behind", "Jump a; a: Tick; - Jump b; b: "+ends)

	// With two parameters it can be a handler as well.
	x := readTidying("Jump a; a: Tick; Try 0 0; EndTry; - Jump b; - Tick; b: " + ends)
	x.before.Params, x.after.Params = 2, 2
	c := making(x.before)
	verified(t, "a handler", c)
	wantProto(t, "a handler", tidied(t, "a handler", c).Protos[1], x.after)
}

func TestTidyLeavesHandlers(t *testing.T) {
	tidiesTo(t, "to the next", "Try h 0; EndTry; "+ends+"h: Jump a; a: Throw 0")
	tidiesTo(t, "to the next that is left", "Try h 0; EndTry; "+ends+"h: Jump a; - Tick; - Throw 5; a: Throw 0")
	tidiesTo(t, "through others", "Try h 0; EndTry; "+ends+"h: Jump a>c; - a: Jump b; - b: Jump c; c: Throw 0")
	tidiesTo(t, "that is come to otherwise as well", "Const 0 0; Const 1 0; Try h 0; EndTry; h: Jump a; a: Throw 0")
	tidiesTo(t, "ahead of the guard", "Jump b; h: Jump a; a: Throw 0; b: Try h 0; EndTry; "+ends)
	tidiesTo(t, "of several guards", "Try h 0; EndTry; Try h 0; EndTry; Try g 0; EndTry; "+ends+"h: Jump a; a: Tick; g: Jump b; b: Throw 0")
	tidiesTo(t, "and a jump behind it", "Try h 0; EndTry; "+ends+"h: Jump a; a: Tick; - Jump b; b: Throw 0")
	tidiesTo(t, "and a jump ahead of it", "Const 0 0; Const 1 0; Try h 0; EndTry; Jump h>a; h: Jump a; a: Throw 0")
	tidiesTo(t, "two handlers in a row", "Try h 0; EndTry; Try g 0; EndTry; "+ends+"h: Jump g>a; g: Jump a; a: Throw 0")
}

// A guard that was taken away lets its handler go.
func TestTidyTakesHandlersOfGuardsThatWent(t *testing.T) {
	tidiesTo(t, "come to from ahead", "Tick; - h: Jump a; a: "+ends+"- Try h 0; - EndTry; - Throw 0")
	tidiesTo(t, "two guards that went", "Tick; - h: Jump a; a: "+ends+"- Try h 0; - Try h 1; - Throw 0")
	tidiesTo(t, "one guard went, one is left", "Const 0 0; Const 1 0; Try h 0; EndTry; h: Jump a; a: Throw 0; - Try h 0; - Throw 0")
	tidiesTo(t, "one guard is left at another", "Const 0 0; Const 1 0; Try g 0; EndTry; - h: Jump a; a: Throw 0; g: Jump b; b: Throw 1; - Try h 0; - Throw 0")
}

// longWay is a chain of a hundred jumps from the label way + "1" to the label end: a target that begins it is led to its end and no further, even when a jump stands there.
func longWay(way, end string) string {
	var b strings.Builder
	for k := 1; k < 100; k++ {
		fmt.Fprintf(&b, "- %s%d: Jump %s%d\n", way, k, way, k+1)
	}
	return fmt.Sprintf("%s- %s100: Jump %s\n", b.String(), way, end)
}

// Jumps in a row that are all reached: by a way so long that it is not followed to its end. Which instruction is the next does not hang on what goes by this rule itself.
func TestTidyNextGoesByWhatIsReached(t *testing.T) {
	tidiesTo(t, "the second goes, the first stays", "Const 0 0; If 0 w1>two; one: Jump three; - two: Jump three; three: Throw 0\n"+longWay("w", "two"))
	tidiesTo(t, "the second goes, though its own way is long", "Const 0 0; If 0 w1>two; Throw 0; - two: Jump three; three: Throw 0\n"+longWay("w", "two"))
	tidiesTo(t, "two in a row go, each to the next", `
		Const 0 0
		If 0 w1>one
		If 0 v1>two
		Throw 0
		- one: Jump x1>two
		- two: Jump three
		three: Throw 0
		`+longWay("w", "one")+longWay("v", "two")+longWay("x", "two"))
	tidiesTo(t, "three in a row, each to the next", `
		Const 0 0
		If 0 w1>one
		Throw 0
		- one: Jump v1>two
		- two: Jump x1>three
		- three: Jump four
		four: Throw 0
		`+longWay("w", "one")+longWay("v", "two")+longWay("x", "three"))
	tidiesTo(t, "the first stays, as the second is a handler", "Const 0 0; Const 1 0; Try two 0; EndTry; Jump three; two: Jump three; three: Throw 0")
	tidiesTo(t, "a handler at the end of a long way", "Const 0 0; Const 1 0; Try two 0; EndTry; If 0 w1>two; Throw 0; two: Jump three; three: Throw 0\n"+longWay("w", "two"))
}

// Tidied once more, a jump goes that had led past another.
func TestTidyTwice(t *testing.T) {
	x := readTidying("Const 0 0; If 0 w1>two; one: Jump three; - two: Jump three; three: Throw 0\n" + longWay("w", "two"))
	once := tidied(t, "once", code(x.before))
	twice := tidied(t, "twice", once)
	if got := written(twice.Protos[0].Ins); got != written([]impl.Ins{in(impl.IConst), in(impl.IIf, 0, 2), in(impl.IThrow)}) {
		t.Errorf("got\n%s", got)
	}
}
