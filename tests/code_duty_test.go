package tests

import (
	"fmt"
	"strings"
	"testing"

	"loop.example/draft/impl"
)

// duty is an instruction with a register of its own in each field, and what the table says that it needs and leaves there: a letter for each register, "?" where it does not look or does not change it.
type duty struct {
	ins   impl.Ins
	needs string
	after string
	// The fields that are operands, as letters: these can take.
	reads string
	// Where an instruction is named, as a letter.
	jumps string
	// What the guards have to be: "T" or "S" for the innermost one.
	inside string
}

var duties = []duty{
	{ins: in(impl.ILine, 1)},
	{ins: in(impl.IAt, 1)},
	{ins: in(impl.ITick)},
	{ins: in(impl.IConst, 0, 1), needs: "?", after: "v"},
	{ins: in(impl.IMove, 0, 1), needs: "?v", after: "v?", reads: "B"},
	{ins: in(impl.IBox, 0, 1), needs: "?v", after: "b?", reads: "B"},
	{ins: in(impl.IGet, 0, 1), needs: "?b", after: "v?"},
	{ins: in(impl.IPut, 0, 1), needs: "bv", after: "??", reads: "B"},
	{ins: in(impl.IUpGet, 0, 1), needs: "?", after: "v"},
	{ins: in(impl.IUpPut, 1, 0), needs: "v", after: "?", reads: "B"},
	{ins: in(impl.IFn, 0, 2), needs: "?bb", after: "v??"},
	{ins: in(impl.ITable, 0), needs: "?", after: "v"},
	{ins: in(impl.IRaw, 0, 1, 2), needs: "vvv", after: "???", reads: "BC"},
	{ins: in(impl.IRawAll, 0, 1, 2), needs: "vvl", after: "???", reads: "BC"},
	{ins: in(impl.IIndex, 0, 1, 2), needs: "?vv", after: "v??", reads: "BC"},
	{ins: in(impl.ISet, 0, 1, 2), needs: "vvv", after: "???", reads: "ABC"},
	{ins: in(impl.IUnary, 0, impl.OpNot, 1), needs: "?v", after: "v?", reads: "C"},
	{ins: in(impl.IBinary, 0, impl.OpAdd, 1, 2), needs: "?vv", after: "v??", reads: "CD"},
	{ins: in(impl.IBinary, 0, impl.OpJoin, 1, 2), needs: "?vv", after: "v??", reads: "CD"},
	{ins: in(impl.IJump, 0), jumps: "A"},
	{ins: in(impl.IIf, 0, 0), needs: "v", after: "?", reads: "A", jumps: "B"},
	{ins: in(impl.IUnless, 0, 0), needs: "v", after: "?", reads: "A", jumps: "B"},
	{ins: in(impl.IList, 0), needs: "?", after: "l"},
	{ins: in(impl.IAdd, 0, 1), needs: "lv", after: "??", reads: "B"},
	{ins: in(impl.IJoin, 0, 1), needs: "ll", after: "??", reads: "B"},
	{ins: in(impl.IFirst, 0, 1), needs: "?l", after: "v?", reads: "B"},
	{ins: in(impl.IPick, 0, 1, 5), needs: "?l", after: "v?"},
	{ins: in(impl.ICopy, 0, 1), needs: "?l", after: "l?"},
	{ins: in(impl.ICall, 0, 1, 2), needs: "?vl", after: "l??", reads: "BC"},
	{ins: in(impl.IReturn, 0), needs: "l", after: "?", reads: "A"},
	{ins: in(impl.IThrow, 0), needs: "v", after: "?", reads: "A"},
	{ins: in(impl.ITry, 0, 5), jumps: "A"},
	{ins: in(impl.IEndTry), inside: "T"},
	{ins: in(impl.IScope, 5)},
	{ins: in(impl.IKeep, 6), inside: "S"},
	{ins: in(impl.IDefer, 0, 1), needs: "vl", after: "??", reads: "AB", inside: "S"},
	{ins: in(impl.ILeave), inside: "S"},
	{ins: in(impl.IFor, 0), needs: "vvv", after: "???"},
	{ins: in(impl.IForTest, 0, 0), needs: "vvv", after: "???", jumps: "B"},
	{ins: in(impl.IForNext, 0, 0), needs: "vvv", after: "???", jumps: "B"},
	{ins: in(impl.IEach, 0), needs: "v.", after: "vv"},
	{ins: in(impl.IEachNext, 0, 0, 2), needs: "vv?", after: "??l", jumps: "B"},
	{ins: in(impl.IDrop, 0), needs: "?", after: "."},
}

func fieldOf(x *impl.Ins, letter rune) *int {
	return []*int{&x.A, &x.B, &x.C, &x.D}[letter-'A']
}

// taking is the duty's instruction with those of its operands taken whose bits are set, and the registers that it takes.
func (d duty) taking(bits int) (impl.Ins, []int) {
	x := d.ins
	var regs []int
	for i, letter := range d.reads {
		if bits>>i&1 == 1 {
			f := fieldOf(&x, letter)
			regs = append(regs, *f)
			*f = took(*f)
		}
	}
	return x, regs
}

func (d duty) goesOn() bool {
	return d.ins.Op != impl.IJump && d.ins.Op != impl.IReturn && d.ins.Op != impl.IThrow
}

// met says whether the registers hold what is needed.
func (d duty) met(types string) bool {
	for i, need := range d.needs {
		if need != '?' && byte(need) != types[i] {
			return false
		}
	}
	return true
}

// left is what the registers hold behind the instruction.
func (d duty) left(types string, taken []int) string {
	out := []byte(types)
	for _, reg := range taken {
		out[reg] = '.'
	}
	for i, letter := range d.after {
		if letter != '?' {
			out[i] = byte(letter)
		}
	}
	return string(out)
}

// stage is a code with a duty's instruction: in proto 1, with registers that were filled and guards around it.
type stage struct {
	code impl.Code
	// Where the instruction stands, the next one, and the one at which it may go on.
	at, next, other int
}

const stageRegs = 8

// stageOf puts the instruction behind this fill and these guards. What follows it are rings with a tick, as it does not matter what is held there.
func (d duty) stageOf(x impl.Ins, types string, guards ...impl.Ins) stage {
	list := append(filling(types), guards...)
	s := stage{at: len(list), next: len(list) + 1, other: len(list) + 3}
	for _, letter := range d.jumps {
		*fieldOf(&x, letter) = s.other
	}
	rings := []int{s.next, s.other}
	for i, g := range list {
		if g.Op == impl.ITry {
			list[i].A = s.next + 2*len(rings)
			rings = append(rings, list[i].A)
		}
	}
	list = append(list, x)
	for _, ring := range rings {
		list = append(list, in(impl.ITick), in(impl.IJump, ring))
	}
	s.code = stageCode(x, list)
	return s
}

// stageCode has the instructions in its proto 1; x is the one among them that may make proto 2.
func stageCode(x impl.Ins, list []impl.Ins) impl.Code {
	main := proto(2, append(filling("b"), in(impl.IFn, 1, 1), in(impl.IThrow, 1))...)
	second := proto(stageRegs, list...)
	second.Ups = []impl.Up{local(0), local(0)}
	if x.Op == impl.IFn {
		return code(main, second, ending(local(1), outer(0), local(2)))
	}
	return code(main, second)
}

func (d duty) guards() []impl.Ins {
	switch d.inside {
	case "T":
		return []impl.Ins{in(impl.ITry, 0, 3)}
	case "S":
		return []impl.Ins{in(impl.IScope, 3)}
	}
	return nil
}

// wide makes a fill as wide as the registers are many.
func wide(types string) string { return (types + "........")[:stageRegs] }

// fills gives all the types that so many registers can hold.
func fills(many int) []string {
	list := []string{""}
	for range many {
		var longer []string
		for _, types := range list {
			for _, letter := range ".vbl" {
				longer = append(longer, types+string(letter))
			}
		}
		list = longer
	}
	return list
}

// metBy gives all the types for which the duty can be done.
func (d duty) metBy() []string {
	var list []string
	for _, types := range fills(len(d.needs)) {
		if d.met(types) {
			list = append(list, types)
		}
	}
	return list
}

func (d duty) name(bits int, types string) string {
	x, _ := d.taking(bits)
	return fmt.Sprintf("%+v with %q", x, types)
}

// behind is the state that the next one gets, and the one at which the instruction may go on.
func (d duty) behind(types string, taken []int, s stage) (next, other string) {
	types = wide(types)
	next = d.left(types, taken)
	other = next
	guard := ""
	switch d.inside {
	case "T":
		guard = fmt.Sprint(" T3@", s.other+2)
	case "S":
		guard = " S3"
	}
	nextGuard := guard
	switch d.ins.Op {
	case impl.ITry:
		nextGuard = fmt.Sprintf("%s T5@%d", guard, s.other)
		other = types[:5] + "vv."
	case impl.IScope:
		nextGuard = guard + " S5"
	case impl.IKeep:
		nextGuard = " S6"
	case impl.IEndTry, impl.ILeave:
		nextGuard = ""
	case impl.IEachNext:
		other = types
	}
	return next + nextGuard, other + guard
}

// Each Op with all that its registers can hold, and with each set of its operands taken: code 10 exactly where the table asks for something else, and the states of those behind it.
func TestTypesOfEachOp(t *testing.T) {
	seen := map[int]bool{}
	for _, d := range duties {
		seen[d.ins.Op] = true
		for _, types := range fills(len(d.needs)) {
			for bits := range 1 << len(d.reads) {
				x, taken := d.taking(bits)
				s := d.stageOf(x, types, d.guards()...)
				what := d.name(bits, types)
				if !d.met(types) {
					wantCode(t, what, s.code, faultOf(10, 1, s.at))
					continue
				}
				states := verified(t, what, s.code)[1]
				next, other := d.behind(types, taken, s)
				if !d.goesOn() {
					next = "-"
				}
				if d.jumps == "" {
					other = "-"
				}
				if len(states) == 0 || brief(states[s.next]) != next || brief(states[s.other]) != other {
					t.Errorf("%s: behind it %q and %q, want %q and %q", what, brief(states[s.next]), brief(states[s.other]), next, other)
				}
			}
		}
	}
	if len(seen) != opCount {
		t.Errorf("%d ops, want %d", len(seen), opCount)
	}
}

// Each Op under a guard that catches, with each keep: code 12 exactly where a register below it is taken or changes its type.
func TestKeepsOfEachOp(t *testing.T) {
	for _, d := range duties {
		for _, types := range d.metBy() {
			for bits := range 1 << len(d.reads) {
				for keep := range 6 {
					d.underKeep(t, types, bits, keep)
				}
			}
		}
	}
}

func (d duty) underKeep(t *testing.T, types string, bits, keep int) {
	t.Helper()
	x, taken := d.taking(bits)
	guards := []impl.Ins{in(impl.ITry, 0, keep)}
	switch d.inside {
	case "T":
		guards = append(guards, in(impl.ITry, 0, keep+1))
	case "S":
		guards = append(guards, in(impl.IScope, keep+1))
	}
	s := d.stageOf(x, types, guards...)
	what := fmt.Sprint(d.name(bits, types), ", keep ", keep)
	ahead := wide(types)
	wrong := ahead[:keep] != d.left(ahead, taken)[:keep]
	for _, reg := range taken {
		wrong = wrong || reg < keep
	}
	if d.ins.Op == impl.IEach {
		wrong = keep > 0
	}
	if wrong {
		wantCode(t, what, s.code, faultOf(12, 1, s.at))
	} else {
		verified(t, what, s.code)
	}
}

// Each Op that goes on, where the next one was reached with something else held.
func TestNextOfEachOpReachedBefore(t *testing.T) {
	for _, d := range duties {
		if !d.goesOn() {
			continue
		}
		for _, types := range d.metBy() {
			for bits := range 1 << len(d.reads) {
				x, _ := d.taking(bits)
				s := d.stageOf(x, types, d.guards()...)
				early(&s, s.next)
				wantCode(t, d.name(bits, types)+", next", s.code, faultOf(13, 1, s.next))
			}
		}
	}
}

func TestTargetOfEachOpReachedBefore(t *testing.T) {
	for _, d := range duties {
		if d.jumps == "" {
			continue
		}
		for _, types := range d.metBy() {
			for bits := range 1 << len(d.reads) {
				x, _ := d.taking(bits)
				s := d.stageOf(x, types, d.guards()...)
				early(&s, s.other)
				wantCode(t, d.name(bits, types)+", target", s.code, faultOf(13, 1, s.other))
			}
		}
	}
}

// early puts in front of all a way to this instruction on which register 7 holds a list.
func early(s *stage, to int) {
	const more = 4
	list := s.code.Protos[1].Ins
	for i := range list {
		for _, d := range duties {
			if d.ins.Op == list[i].Op {
				for _, letter := range d.jumps {
					*fieldOf(&list[i], letter) += more
				}
				break
			}
		}
	}
	way := []impl.Ins{in(impl.IList, 7), in(impl.IConst, 6), in(impl.IIf, took(6), to+more), in(impl.IDrop, 7)}
	s.code.Protos[1].Ins = append(way, list...)
	s.at, s.next, s.other = s.at+more, s.next+more, s.other+more
}

// loud are the Ops from which no silent step goes.
func loud(x impl.Ins) bool {
	return x.Op == impl.ILine || x.Op == impl.ITick || x.Op == impl.ICall || x.Op == impl.IBinary && x.B == impl.OpJoin
}

// Each Op alone on a ring, by the next one and by its target.
func TestRingOfEachOp(t *testing.T) {
	for _, d := range duties {
		if !d.goesOn() && d.jumps == "" || d.inside != "" || d.ins.Op == impl.ITry || d.ins.Op == impl.IScope {
			continue
		}
		d.ringByNext(t)
		d.ringByTarget(t)
	}
}

// settled is a fill that the instruction leaves as it is; nothing if there is none.
func (d duty) settled() string {
	types := ""
	for i, need := range d.needs {
		letter := string(need)
		if need == '?' {
			letter = string(d.after[i])
		}
		types += letter
	}
	if strings.Contains(types, "?") || d.left(wide(types), nil) != wide(types) {
		return ""
	}
	return types
}

func (d duty) ringByNext(t *testing.T) {
	t.Helper()
	types := d.settled()
	if !d.goesOn() || types == "" && d.needs != "" {
		return
	}
	s := d.stageOf(d.ins, types)
	list := s.code.Protos[1].Ins
	list[s.next] = in(impl.IJump, s.at)
	what := fmt.Sprintf("%+v and a jump back", d.ins)
	if loud(d.ins) || d.ins.Op == impl.IEachNext {
		verified(t, what, s.code)
	} else {
		wantCode(t, what, s.code, faultOf(14, 1, s.at))
	}
}

func (d duty) ringByTarget(t *testing.T) {
	t.Helper()
	if d.jumps == "" {
		return
	}
	s := d.stageOf(d.ins, d.settled())
	for _, letter := range d.jumps {
		*fieldOf(&s.code.Protos[1].Ins[s.at], letter) = s.at
	}
	wantCode(t, fmt.Sprintf("%+v to itself", d.ins), s.code, faultOf(14, 1, s.at))
}
