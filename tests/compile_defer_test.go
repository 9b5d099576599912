package tests

import (
	"fmt"
	"testing"

	"loop.example/draft/impl"
)

// deferAt is the listing of a NDefer of a constant at r+at.
func deferAt(at int) string {
	return fmt.Sprintf("Line 7; Const r+%d #i1; List r+%d; Defer ~r+%d ~r+%d\n", at, at+1, at, at+1)
}

func TestCompileBlocksWithDefers(t *testing.T) {
	d := deferred(one())
	becomes(t, "the body", 0, nil, "Scope r\n"+deferAt(0)+"Leave", d)
	becomes(t, "two of them", 0, nil, "Scope r\n"+deferAt(0)+deferAt(0)+"Leave", d, d)
	becomes(t, "a block in the body", 0, nil, "Scope r\n"+deferAt(0)+"Leave", block(d))
	becomes(t, "both", 0, nil, "Scope r; Scope r\n"+deferAt(0)+"Leave\n"+deferAt(0)+"Leave", block(d), d)
	becomes(t, "a block behind a variable", 1, nil, "Line 7; Const r #nil; Scope r+1\n"+deferAt(1)+"Leave; Drop r", let(0), block(d))
	becomes(t, "a block with a defer, in one without, in one with", 0, nil,
		"Scope r\n"+deferAt(0)+"Scope r\n"+deferAt(0)+"Leave; Leave", d, block(block(d)))
}

// Behind each NLet of a block with a NDefer comes an IKeep, be it ahead of the NDefer or behind it; in other blocks there is none.
func TestCompileKeeps(t *testing.T) {
	d := deferred(one())
	becomes(t, "a let ahead", 1, nil, "Scope r; Line 7; Const r #nil; Keep r+1\n"+deferAt(1)+"Leave; Drop r", let(0), d)
	becomes(t, "a let behind", 1, nil, "Scope r\n"+deferAt(0)+"Line 7; Const r #nil; Keep r+1; Leave; Drop r", d, let(0))
	becomes(t, "lets on both sides", 3, nil,
		"Scope r; Line 7; Const r #nil; Keep r+1\n"+deferAt(1)+"Line 7; Const r+1 #i1; Keep r+2; Line 7; Const r+2 #nil; Keep r+3; Leave; Drop r; Drop r+1; Drop r+2",
		let(0), d, let(1, one()), let(2))
	becomes(t, "several in one let", 3, nil,
		"Scope r; Line 7; Const r #nil; Const r+1 #nil; Const r+2 #nil; Keep r+3\n"+deferAt(3)+"Leave\n"+dropping(0, 3), lets(0, 1, 2), d)
	becomes(t, "a list of values", 2, nil, "Scope r; Line 7\n"+listed(2, 1, "")+picks(0, 2)+"Keep r+2\n"+deferAt(2)+"Leave\n"+dropping(0, 2), letOf(2, one()), d)
	becomes(t, "behind the boxes", 2, []impl.Fn{plain(local(0), local(1))},
		"Scope r; Line 7; Const r #nil; Const r+1 #nil; Box r ~r; Box r+1 ~r+1; Keep r+2; Line 7; Fn r+2 1; List r+3; Defer ~r+2 ~r+3; Leave\n"+dropping(0, 2),
		lets(0, 1), deferred(closure(1)))
	becomes(t, "no let", 1, nil, "Scope r\n"+deferAt(0)+"Line 7; Const r #i1; List r+1; Call r ~r ~r+1; Drop r; Leave", d, do(one()))
	becomes(t, "a block within, without a defer", 2, nil,
		"Scope r\n"+deferAt(0)+"Line 7; Const r #nil; Drop r; Line 7; Const r #nil; Keep r+1; Leave; Drop r", d, block(let(0)), let(1))
	becomes(t, "a defer in a block within", 2, nil,
		"Line 7; Const r #nil; Scope r+1; Line 7; Const r+1 #nil; Keep r+2\n"+deferAt(2)+"Leave; Drop r+1; Drop r", let(0), block(let(1), d))
	becomes(t, "both with defers", 2, nil,
		"Scope r; Line 7; Const r #nil; Keep r+1; Scope r+1; Line 7; Const r+1 #nil; Keep r+2\n"+deferAt(2)+"Leave; Drop r+1\n"+deferAt(1)+"Leave; Drop r",
		let(0), block(let(1), d), d)
}

func TestCompileDefersInStatements(t *testing.T) {
	d := deferred(one())
	becomes(t, "if and else", 0, nil, "Line 7; Const r #nil; Unless ~r else; Scope r\n"+deferAt(0)+"Leave; Jump end; else: Scope r\n"+deferAt(0)+"Leave; end:",
		stmt(impl.NIf, none(), block(d), block(d)))
	becomes(t, "a while", 0, nil, "Line 7; begin: Tick; Const r #nil; Unless ~r exit; Scope r\n"+deferAt(0)+"Leave; At 7; Jump begin; exit:", while(d))
	becomes(t, "a for", 2, nil, "Line 7; Const r #i1; Const r+1 #i1; Const r+2 #i1; For r; test: ForTest r exit; Tick; Move r+3 r; Scope r+4; Line 7; Const r+4 #nil; Keep r+5\n"+
		deferAt(5)+"Leave; Drop r+4; Drop r+3; At 7; ForNext r test; exit:\n"+dropping(0, 3), count(0, let(1), d))
	becomes(t, "an each", 2, nil, "Line 7; Const r #i1; Each r; test: EachNext r exit r+2; Pick r+3 r+2 0; Pick r+4 r+2 1; Drop r+2; Scope r+5\n"+
		deferAt(5)+"Leave\n"+dropping(2, 3)+"At 7; Jump test; exit:\n"+dropping(0, 2), each([]int{0, 1}, d))
	becomes(t, "a try and a catch", 2, nil, "Line 7; Try handler r; Scope r\n"+deferAt(0)+"Leave; EndTry; Jump end; handler: Scope r+2\n"+deferAt(2)+"Leave; Drop r; Drop r+1; end:",
		catch(0, 1, block(d), block(d)))
	becomes(t, "behind a return", 0, nil, "Scope r; Line 7; List r; Return ~r\n"+deferAt(0)+"Leave", giveBack(), d)
}

// The body of a fn leaves its defers ahead of the return behind it; parameters are below what is kept.
func TestCompileDefersInFns(t *testing.T) {
	d := deferred(variable(0), rest())
	listing := "Scope 3; Line 7; Move 3 0; List 4; Copy 5 2; Join 4 ~5; Defer ~3 ~4; Line 7; Const 3 #nil; Keep 4; Leave; Drop 3"
	wantIns(t, "a fn with parameters and rest", inFn(2, 1, true, nil, d, let(2)), 1, listing)
	wantIns(t, "the text around it", inFn(2, 1, true, nil, d, let(2)), 0,
		"Line 7; Const r #nil; Const r+1 #nil; Box r ~r; Box r+1 ~r+1\n"+doing(1, 2)+"Drop r; Drop r+1")
}
