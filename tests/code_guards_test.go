package tests

import (
	"fmt"
	"testing"

	"loop.example/draft/impl"
)

// guarded is a proto of eight registers: a fill, then these instructions, then an end, and behind that a handler that does nothing for each ITry, in order. A fault's At counts from the fill's end.
type guarded struct {
	fill  string
	list  []impl.Ins
	code  int
	at    int
	where string
}

func (g guarded) build() (impl.Code, int) {
	list := filling(g.fill)
	start := len(list)
	list = append(list, g.list...)
	list = append(list, in(impl.ITick), in(impl.IJump, start+len(g.list)))
	for i, x := range list {
		if x.Op == impl.ITry {
			list[i].A = len(list)
			list = append(list, in(impl.ITick), in(impl.IJump, len(list)))
		}
	}
	return code(proto(8, list...)), start
}

func (g guarded) ask(t *testing.T) {
	t.Helper()
	c, start := g.build()
	what := fmt.Sprintf("%s: %q %v", g.where, g.fill, g.list)
	if g.code == 0 {
		verified(t, what, c)
	} else {
		wantCode(t, what, c, faultOf(g.code, 0, start+g.at))
	}
}

func try(keep int) impl.Ins   { return in(impl.ITry, 0, keep) }
func scope(keep int) impl.Ins { return in(impl.IScope, keep) }
func keep(keep int) impl.Ins  { return in(impl.IKeep, keep) }

var (
	endTry = in(impl.IEndTry)
	leave  = in(impl.ILeave)
)

func list(all ...impl.Ins) []impl.Ins { return all }

func TestGuardsThatAreAskedFor(t *testing.T) {
	later := in(impl.IDefer, 0, 1)
	for _, g := range []guarded{
		{where: "none", list: list(endTry), code: 11},
		{where: "none", list: list(keep(0)), code: 11},
		{where: "none", list: list(later), fill: "vl", code: 11},
		{where: "none", list: list(leave), code: 11},
		{where: "the other kind", list: list(scope(0), endTry), code: 11, at: 1},
		{where: "the other kind", list: list(try(0), keep(0)), code: 11, at: 1},
		{where: "the other kind", list: list(try(0), later), fill: "vl", code: 11, at: 1},
		{where: "the other kind", list: list(try(0), leave), code: 11, at: 1},
		{where: "the right one is not the innermost", list: list(try(0), scope(0), endTry), code: 11, at: 2},
		{where: "the right one is not the innermost", list: list(scope(0), try(0), keep(0)), code: 11, at: 2},
		{where: "the right one is not the innermost", list: list(scope(0), try(0), later), fill: "vl", code: 11, at: 2},
		{where: "the right one is not the innermost", list: list(scope(0), try(0), leave), code: 11, at: 2},
		{where: "taken off already", list: list(try(0), endTry, endTry), code: 11, at: 2},
		{where: "taken off already", list: list(scope(0), leave, leave), code: 11, at: 2},
		{where: "taken off already", list: list(scope(0), leave, later), fill: "vl", code: 11, at: 2},
		{where: "taken off already", list: list(scope(0), leave, keep(1)), code: 11, at: 2},
		{where: "one in another", list: list(scope(0), try(0), scope(0), later, keep(3), leave, endTry, later, leave), fill: "vl"},
		{where: "one behind another", list: list(try(0), endTry, try(0), endTry, scope(2), leave, scope(1), leave)},
		{where: "left on", list: list(try(0), scope(0), try(0))},
	} {
		g.ask(t)
	}
}

// The keep of ITry, IScope and IKeep is held against all guards that catch, not against those with defers.
func TestKeepsOfGuards(t *testing.T) {
	for outer := 0; outer <= 6; outer++ {
		for inner := 0; inner <= 6; inner++ {
			for between := -1; between <= 8; between++ {
				ahead := list(try(outer))
				wrong := 0
				if between >= 0 {
					ahead = append(ahead, scope(between))
				}
				if between >= 0 && between < outer {
					wrong = 1
				}
				for _, last := range [][]impl.Ins{{try(inner)}, {scope(inner)}, {scope(7), keep(inner)}, {keep(inner)}} {
					g := guarded{where: "keeps", list: append(list(ahead...), last...)}
					switch {
					case wrong > 0:
						g.code, g.at = 11, wrong
					case last[0].Op == impl.IKeep && between < 0:
						g.code, g.at = 11, 1
					case inner < outer:
						g.code, g.at = 11, len(g.list)-1
					}
					g.ask(t)
				}
			}
		}
	}
}

func TestKeepsOfSeveralGuards(t *testing.T) {
	for _, g := range []guarded{
		{where: "below the outer one, with a scope that is higher between", list: list(try(3), scope(8), try(2)), code: 11, at: 2},
		{where: "at the outer one, with a scope that is higher between", list: list(try(3), scope(8), try(3))},
		{where: "below the inner one", list: list(try(2), try(4), scope(3)), code: 11, at: 2},
		{where: "at the inner one", list: list(try(2), try(4), scope(4))},
		{where: "below one that was taken off", list: list(try(2), try(4), endTry, scope(3))},
		{where: "below the one that is left", list: list(try(2), try(4), endTry, scope(1)), code: 11, at: 3},
		{where: "down to the guard that catches", list: list(try(2), scope(7), keep(2))},
		{where: "below it", list: list(try(2), scope(7), keep(1)), code: 11, at: 2},
		{where: "with another scope between", list: list(try(2), scope(3), scope(8), keep(2), keep(8), leave, keep(2))},
		{where: "with another scope between, below", list: list(try(2), scope(3), scope(8), keep(1)), code: 11, at: 3},
		{where: "no guard that catches", list: list(scope(8), scope(0), keep(8), keep(0), leave, keep(0))},
		{where: "a keep that was lowered is no bar", list: list(scope(8), keep(0), try(0), scope(0))},
	} {
		g.ask(t)
	}
}

func TestCountOfGuards(t *testing.T) {
	for _, last := range []impl.Ins{try(6), scope(6)} {
		for _, kinds := range []string{"T", "S", "TS", "STT"} {
			for many := guardsUp - 2; many <= guardsUp+1; many++ {
				g := guarded{where: fmt.Sprint(kinds, " ", many)}
				for i := range many {
					x := scope(5)
					if kinds[i%len(kinds)] == 'T' {
						x = try(5)
					}
					g.list = append(g.list, x)
				}
				g.list = append(g.list, last)
				if many >= guardsUp {
					g.code, g.at = 11, guardsUp
				}
				g.ask(t)
			}
		}
	}
	full := guarded{where: "one off, one on"}
	for range guardsUp {
		full.list = append(full.list, scope(1))
	}
	full.list = append(full.list, keep(2), leave, try(0), endTry, scope(0))
	full.ask(t)
	full.list = append(full.list, try(0))
	full.code, full.at = 11, len(full.list)-1
	full.ask(t)
}

func TestRegistersBelowTheKeep(t *testing.T) {
	drop := func(reg int) impl.Ins { return in(impl.IDrop, reg) }
	move := func(a, b int) impl.Ins { return in(impl.IMove, a, b) }
	for _, g := range []guarded{
		{where: "dropped", fill: "vvv", list: list(try(2), drop(1)), code: 12, at: 1},
		{where: "dropped at the keep", fill: "vvv", list: list(try(2), drop(2))},
		{where: "dropped, nothing held", fill: "v.v", list: list(try(2), drop(1))},
		{where: "taken and put back", fill: "vvv", list: list(try(2), move(1, took(1))), code: 12, at: 1},
		{where: "taken into another", fill: "vvv", list: list(try(2), move(4, took(1))), code: 12, at: 1},
		{where: "read", fill: "vvv", list: list(try(2), move(4, 1))},
		{where: "the same type put in", fill: "vvv", list: list(try(2), move(1, 2))},
		{where: "the same type put in, taken above", fill: "vvv", list: list(try(2), move(1, took(2)))},
		{where: "something put in where nothing was", fill: "v.v", list: list(try(2), move(1, 2)), code: 12, at: 1},
		{where: "another type put in", fill: "vlv", list: list(try(2), move(1, 2)), code: 12, at: 1},
		{where: "boxed", fill: "vvv", list: list(try(2), in(impl.IBox, 1, 1)), code: 12, at: 1},
		{where: "a list for a value", fill: "vvv", list: list(try(2), in(impl.IList, 0)), code: 12, at: 1},
		{where: "a list for a list", fill: "lvv", list: list(try(2), in(impl.IList, 0))},
		{where: "returned and taken", fill: "lvv", list: list(try(1), in(impl.IReturn, took(0))), code: 12, at: 1},
		{where: "returned", fill: "lvv", list: list(try(1), in(impl.IReturn, 0))},
		{where: "thrown and taken", fill: "vvv", list: list(try(1), in(impl.IThrow, took(0))), code: 12, at: 1},
		{where: "each, A below", fill: "v.", list: list(try(1), in(impl.IEach, 0)), code: 12, at: 1},
		{where: "each, A at the keep", fill: ".v", list: list(try(1), in(impl.IEach, 1))},
		{where: "each, both below", fill: "v.", list: list(try(2), in(impl.IEach, 0)), code: 12, at: 1},
		{where: "a turn's list for a list", fill: "vvl", list: list(try(3), in(impl.IEachNext, 0, 5, 2))},
		{where: "a turn's list for nothing", fill: "vv.", list: list(try(3), in(impl.IEachNext, 0, 4, 2)), code: 12, at: 1},
		{where: "a turn's list at the keep", fill: "vv.", list: list(try(2), in(impl.ITick), in(impl.IEachNext, 0, 3, 2))},
		{where: "under a scope inside", fill: "vvv", list: list(try(2), scope(2), drop(1)), code: 12, at: 2},
		{where: "under a scope alone", fill: "vvv", list: list(scope(3), drop(1))},
		{where: "under the outer one", fill: "vvv", list: list(try(1), try(2), endTry, drop(1))},
		{where: "under the outer one, below", fill: "vvv", list: list(try(1), try(2), endTry, drop(0)), code: 12, at: 3},
		{where: "under the outer one, above it below the inner", fill: "vvv", list: list(try(1), try(2), drop(1)), code: 12, at: 2},
		{where: "behind the end", fill: "vvv", list: list(try(3), endTry, drop(1), drop(2))},
		{where: "each behind the end, under the outer one", fill: ".v.", list: list(try(1), try(3), endTry, in(impl.IEach, 1))},
		{where: "behind a scope that was left", fill: "vvv", list: list(try(2), scope(3), leave, drop(2), drop(1)), code: 12, at: 4},
		{where: "ahead of the try", fill: "vvv", list: list(drop(1), try(2))},
	} {
		g.ask(t)
	}
}

// A keep may be all the registers, but for ITry, which needs two more.
func TestKeepsAtTheEndOfTheRegisters(t *testing.T) {
	for regs := range 5 {
		for k := -1; k <= regs+1; k++ {
			for _, op := range []int{impl.ITry, impl.IScope, impl.IKeep} {
				p := proto(regs, in(impl.ITick), scope(0), in(op, k), in(impl.ITick), in(impl.IJump, 3), in(impl.ITick), in(impl.IJump, 5))
				most := regs
				if op == impl.ITry {
					p.Ins[2] = in(op, 5, k)
					most = regs - 2
				}
				what := fmt.Sprint("regs ", regs, ", op ", op, ", keep ", k)
				if k >= 0 && k <= most {
					verified(t, what, code(p))
				} else {
					wantShape(t, what, code(p), faultOf(5, 0, 2))
				}
			}
		}
	}
}
