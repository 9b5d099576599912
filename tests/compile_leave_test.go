package tests

import (
	"fmt"
	"strings"
	"testing"

	"loop.example/draft/impl"
)

// layer is something that a NBreak or NNext can stand in, with its listings: those ahead of what stands in it, those by which it is left, and those behind it. In them <0>, <1> .. are the registers from its top on, <L> is a number of its own for labels; what stands in it begins at inner. It declares own variables.
type layer struct {
	what  string
	own   int
	inner int
	put   func(v int, inside ...tree) tree
	open  string
	leave string
	close string
}

// isLoop says whether it is a loop, whose next turn has a label.
func (l layer) isLoop() bool { return strings.Contains(l.close, "next<L>:") }

const (
	deferLines  = "Line 7; Const <0> #i1; List <1>; Defer ~<0> ~<1>\n"
	deferLines1 = "Line 7; Const <1> #i1; List <2>; Defer ~<1> ~<2>\n"
	letLines    = "Line 7; Const <0> #i1\n"
	tryLines    = "Line 7; Try handler<L> <0>\n"
	tryClose    = "EndTry; Jump end<L>; handler<L>: Drop <0>; Drop <1>; end<L>:\n"
	catchOpen   = tryLines + "EndTry; Jump end<L>; handler<L>:\n"
	catchClose  = "Drop <0>; Drop <1>; end<L>:\n"
)

func behind(x tree, inside []tree) []tree { return append([]tree{x}, inside...) }

var layers = []layer{
	{"block", 0, 0, func(v int, x ...tree) tree { return block(x...) }, "", "", ""},
	{"block with a variable", 1, 1, func(v int, x ...tree) tree { return block(behind(let(v, one()), x)...) }, letLines, "Drop <0>\n", "Drop <0>\n"},
	{"block with three", 3, 3, func(v int, x ...tree) tree { return block(behind(lets(v, v+1, v+2), x)...) },
		"Line 7; Const <0> #nil; Const <1> #nil; Const <2> #nil\n", "Drop <0>; Drop <1>; Drop <2>\n", "Drop <0>; Drop <1>; Drop <2>\n"},
	{"block with a defer", 0, 0, func(v int, x ...tree) tree { return block(behind(deferred(one()), x)...) },
		"Scope <0>\n" + deferLines, "Leave\n", "Leave\n"},
	{"block with a variable and a defer", 1, 1, func(v int, x ...tree) tree {
		return block(behind(let(v, one()), behind(deferred(one()), x))...)
	}, "Scope <0>\n" + letLines + "Keep <1>\n" + deferLines1, "Leave; Drop <0>\n", "Leave; Drop <0>\n"},
	{"block with a defer behind it", 0, 0, func(v int, x ...tree) tree { return block(append(append([]tree{}, x...), deferred(one()))...) },
		"Scope <0>\n", "Leave\n", deferLines + "Leave\n"},
	{"if", 0, 0, func(v int, x ...tree) tree { return stmt(impl.NIf, one(), block(x...)) },
		"Line 7; Const <0> #i1; Unless ~<0> else<L>\n", "", "else<L>:\n"},
	{"else", 1, 1, func(v int, x ...tree) tree { return stmt(impl.NIf, one(), block(), block(behind(let(v, one()), x)...)) },
		"Line 7; Const <0> #i1; Unless ~<0> else<L>; Jump end<L>; else<L>:\n" + letLines, "Drop <0>\n", "Drop <0>; end<L>:\n"},
	{"try", 2, 0, func(v int, x ...tree) tree { return catch(v, v+1, block(x...), block()) }, tryLines, "EndTry\n", tryClose},
	{"try with a variable", 3, 1, func(v int, x ...tree) tree { return catch(v, v+1, block(behind(let(v+2, one()), x)...), block()) },
		tryLines + letLines, "Drop <0>; EndTry\n", "Drop <0>\n" + tryClose},
	{"try with a defer", 2, 0, func(v int, x ...tree) tree { return catch(v, v+1, block(behind(deferred(one()), x)...), block()) },
		tryLines + "Scope <0>\n" + deferLines, "Leave; EndTry\n", "Leave\n" + tryClose},
	{"try with a variable and a defer", 3, 1, func(v int, x ...tree) tree {
		return catch(v, v+1, block(behind(let(v+2, one()), behind(deferred(one()), x))...), block())
	}, tryLines + "Scope <0>\n" + letLines + "Keep <1>\n" + deferLines1, "Leave; Drop <0>; EndTry\n", "Leave; Drop <0>\n" + tryClose},
	{"catch", 2, 2, func(v int, x ...tree) tree { return catch(v, v+1, block(), block(x...)) }, catchOpen, "Drop <0>; Drop <1>\n", catchClose},
	{"catch with a variable", 3, 3, func(v int, x ...tree) tree { return catch(v, v+1, block(), block(behind(let(v+2, one()), x)...)) },
		catchOpen + "Line 7; Const <2> #i1\n", "Drop <2>; Drop <0>; Drop <1>\n", "Drop <2>\n" + catchClose},
	{"catch with a defer", 2, 2, func(v int, x ...tree) tree { return catch(v, v+1, block(), block(behind(deferred(one()), x)...)) },
		catchOpen + "Scope <2>; Line 7; Const <2> #i1; List <3>; Defer ~<2> ~<3>\n", "Leave; Drop <0>; Drop <1>\n", "Leave\n" + catchClose},
	{"a while that is done", 0, 0, func(v int, x ...tree) tree { return block(behind(while(stmt(impl.NBreak)), x)...) },
		"Line 7; begin<L>: Tick; Const <0> #nil; Unless ~<0> exit<L>; Line 7; Jump exit<L>; At 7; Jump begin<L>; exit<L>:\n", "", ""},
}

// rings are the loops; what they are left by is what is dropped in a turn.
var rings = []layer{
	{"while", 0, 0, func(v int, x ...tree) tree { return while(x...) },
		"Line 7; begin<L>: Tick; Const <0> #nil; Unless ~<0> exit<L>\n", "", "next<L>: At 7; Jump begin<L>; exit<L>:\n"},
	{"while with a variable and a defer", 1, 1, func(v int, x ...tree) tree { return while(behind(let(v, one()), behind(deferred(one()), x))...) },
		"Line 7; begin<L>: Tick; Const <0> #nil; Unless ~<0> exit<L>; Scope <0>\n" + letLines + "Keep <1>\n" + deferLines1, "Leave; Drop <0>\n",
		"Leave; Drop <0>; next<L>: At 7; Jump begin<L>; exit<L>:\n"},
	{"for", 1, 4, func(v int, x ...tree) tree { return count(v, x...) }, forOpen, "Drop <3>\n", forClose},
	{"for with a variable", 2, 5, func(v int, x ...tree) tree { return count(v, behind(let(v+1, one()), x)...) },
		forOpen + "Line 7; Const <4> #i1\n", "Drop <4>; Drop <3>\n", "Drop <4>\n" + forClose},
	{"for with a defer", 1, 4, func(v int, x ...tree) tree { return count(v, behind(deferred(one()), x)...) },
		forOpen + "Scope <4>; Line 7; Const <4> #i1; List <5>; Defer ~<4> ~<5>\n", "Leave; Drop <3>\n", "Leave\n" + forClose},
	{"each", 1, 4, func(v int, x ...tree) tree { return each([]int{v}, x...) },
		eachOpen + "Drop <2>\n", "Drop <2>; Drop <3>\n", "Drop <2>; Drop <3>\n" + eachClose},
	{"each of four", 4, 7, func(v int, x ...tree) tree { return each([]int{v, v + 1, v + 2, v + 3}, x...) },
		eachOpen + "Pick <4> <2> 1; Pick <5> <2> 2; Pick <6> <2> 3; Drop <2>\n", "Drop <2>; Drop <3>; Drop <4>; Drop <5>; Drop <6>\n",
		"Drop <2>; Drop <3>; Drop <4>; Drop <5>; Drop <6>\n" + eachClose},
	{"each with a variable and a defer", 2, 5, func(v int, x ...tree) tree {
		return each([]int{v}, behind(let(v+1, one()), behind(deferred(one()), x))...)
	}, eachOpen + "Drop <2>; Scope <4>; Line 7; Const <4> #i1; Keep <5>; Line 7; Const <5> #i1; List <6>; Defer ~<5> ~<6>\n",
		"Leave; Drop <4>; Drop <2>; Drop <3>\n", "Leave; Drop <4>; Drop <2>; Drop <3>\n" + eachClose},
}

const (
	forOpen   = "Line 7; Const <0> #i1; Const <1> #i1; Const <2> #i1; For <0>; test<L>: ForTest <0> exit<L>; Tick; Move <3> <0>\n"
	forClose  = "Drop <3>; next<L>: At 7; ForNext <0> test<L>; exit<L>: Drop <0>; Drop <1>; Drop <2>\n"
	eachOpen  = "Line 7; Const <0> #i1; Each <0>; test<L>: EachNext <0> exit<L> <2>; Pick <3> <2> 0\n"
	eachClose = "next<L>: At 7; Jump test<L>; exit<L>: Drop <0>; Drop <1>\n"
)

// at fills in the registers and the labels of a listing.
func at(listing string, top, label int) string {
	var pairs []string
	for i := range 8 {
		pairs = append(pairs, fmt.Sprintf("<%d>", i), fmt.Sprint(top+i))
	}
	return strings.NewReplacer(append(pairs, "<L>", fmt.Sprint(label))...).Replace(listing)
}

// leaving puts these around a NBreak or NNext and what stands behind it, the first outermost, and answers the listing that follows.
func leaving(kind int, around []layer) (impl.Unit, string) {
	var opens, closes, leaves, jump string
	top, vars := 0, 0
	for i, l := range around {
		opens += at(l.open, top, i)
		if leaves = at(l.leave, top, i) + leaves; l.isLoop() {
			leaves = at(l.leave, top, i)
			jump = at(map[int]string{impl.NBreak: "Jump exit<L>\n", impl.NNext: "Jump next<L>\n"}[kind], top, i)
		}
		closes = at(l.close, top, i) + closes
		top += l.inner
		vars += l.own
	}
	// Behind it top is as ahead of it: a call there is made in the same registers as it would be ahead.
	inside := []tree{stmt(kind), do(one())}
	listing := opens + "Line 7\n" + leaves + jump + at("Line 7; Const <0> #i1; List <1>; Call <0> ~<0> ~<1>; Drop <0>\n", top, 0) + closes
	free := vars
	for i := len(around) - 1; i >= 0; i-- {
		free -= around[i].own
		inside = []tree{around[i].put(free, inside...)}
	}
	return text(vars, inside...), listing
}

func wantLeaving(t *testing.T, kind int, around ...layer) {
	t.Helper()
	what := fmt.Sprint(map[int]string{impl.NBreak: "break", impl.NNext: "next"}[kind], " through")
	for i := len(around) - 1; i >= 0; i-- {
		what += ", " + around[i].what
	}
	u, listing := leaving(kind, around)
	c := impl.Compile(u)
	if c.Code != 0 || impl.CheckCode(c.Made) != (impl.CodeFault{}) {
		t.Fatalf("%s: Code %d, fault %v of %v", what, c.Code, impl.CheckCode(c.Made), impl.CheckUnit(u))
	}
	wantListing(t, what, c.Made.Protos[0], 0, listing+"List 0; Return ~0")
}

// Each kind of loop, straight and through up to two layers, and one of each kind through three, each in each order.
func TestCompileLeaving(t *testing.T) {
	t.Parallel()
	for _, kind := range []int{impl.NBreak, impl.NNext} {
		for i, loop := range rings {
			wantLeaving(t, kind, loop)
			for _, a := range layers {
				wantLeaving(t, kind, loop, a)
				for _, b := range layers {
					wantLeaving(t, kind, loop, a, b)
					for _, c := range layers {
						if i%3 == 0 {
							wantLeaving(t, kind, loop, a, b, c)
						}
					}
				}
			}
		}
	}
}

// What is around the loop is not left, be it another loop.
func TestCompileLeavingTheInnerLoop(t *testing.T) {
	for _, kind := range []int{impl.NBreak, impl.NNext} {
		for _, a := range append(append([]layer{}, layers...), rings...) {
			for _, loop := range rings {
				wantLeaving(t, kind, a, loop)
				for _, b := range layers {
					wantLeaving(t, kind, a, loop, b)
				}
			}
		}
	}
}

// A loop that stands between is not left either, when it is done.
func TestCompileLeavingBehindALoop(t *testing.T) {
	becomes(t, "break behind a for", 1, nil,
		"Line 7; begin: Tick; Const r #nil; Unless ~r exit\n"+
			"Line 7; Const r #i1; Const r+1 #i1; Const r+2 #i1; For r; test: ForTest r out; Tick; Move r+3 r; Line 7; Drop r+3; Jump in; Drop r+3; in: At 7; ForNext r test; out: Drop r; Drop r+1; Drop r+2\n"+
			"Line 7; Jump exit; At 7; Jump begin; exit:",
		while(count(0, stmt(impl.NNext)), stmt(impl.NBreak)))
}

// Several in one loop go to the same places.
func TestCompileLeavingManyTimes(t *testing.T) {
	becomes(t, "each one twice", 1, nil,
		"Line 7; Const r #i1; Each r; test: EachNext r exit r+2; Pick r+3 r+2 0; Drop r+2\n"+
			"Line 7; Drop r+2; Drop r+3; Jump exit; Line 7; Drop r+2; Drop r+3; Jump next; Line 7; Drop r+2; Drop r+3; Jump exit; Line 7; Drop r+2; Drop r+3; Jump next\n"+
			"Drop r+2; Drop r+3; next: At 7; Jump test; exit: Drop r; Drop r+1",
		each([]int{0}, stmt(impl.NBreak), stmt(impl.NNext), stmt(impl.NBreak), stmt(impl.NNext)))
}

// A box is left like a value.
func TestCompileLeavingBoxes(t *testing.T) {
	becomes(t, "captured variables of all sorts", 5, []impl.Fn{plain(local(0), local(1), local(2), local(3), local(4))},
		"Line 7; Const r #i1; Const r+1 #i1; Const r+2 #i1; For r; test: ForTest r exit; Tick; Move r+3 r; Box r+3 ~r+3\n"+
			"Line 7; Const r+4 #nil; Box r+4 ~r+4; Line 7; Try handler r+5; EndTry; Jump end; handler: Box r+5 ~r+5; Box r+6 ~r+6\n"+
			"Scope r+7; Line 7; Const r+7 #nil; Box r+7 ~r+7; Keep r+8; Line 7; Fn r+8 1; List r+9; Defer ~r+8 ~r+9\n"+
			"Line 7; Leave; Drop r+7; Drop r+5; Drop r+6; Drop r+4; Drop r+3; Jump exit\n"+
			"Line 7; Leave; Drop r+7; Drop r+5; Drop r+6; Drop r+4; Drop r+3; Jump next\n"+
			"Leave; Drop r+7; Drop r+5; Drop r+6; end: Drop r+4; Drop r+3; next: At 7; ForNext r test; exit: Drop r; Drop r+1; Drop r+2",
		count(0, let(1), catch(2, 3, block(), block(let(4), deferred(closure(1)), stmt(impl.NBreak), stmt(impl.NNext)))))
}
