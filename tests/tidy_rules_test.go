package tests

import (
	"fmt"
	"slices"
	"testing"

	"loop.example/draft/impl"
)

// rulebook follows the four rules of chapter 6 for one proto of a verified code, line by line.
type rulebook struct {
	p    impl.Proto
	ins  []impl.Ins
	left map[int]bool
	gone map[int]bool
	// What came about: how often a target was followed, how often to the limit, what went, and what was spared.
	happened map[string]int
}

func tidyByRules(p impl.Proto, happened map[string]int) impl.Proto {
	b := &rulebook{p: p, left: map[int]bool{0: true}, gone: map[int]bool{}, happened: happened}
	b.follow()
	b.reach()
	for i, x := range b.ins {
		if x.Op == impl.IFn && !b.left[i] {
			happened["a proto stays as it was"]++
			return p
		}
	}
	b.take()
	return b.number()
}

func (b *rulebook) follow() {
	b.ins = slices.Clone(b.p.Ins)
	for i, x := range b.p.Ins {
		for f, part := range partsOf(x) {
			if part.word != "ins" || x.Op == impl.ITry {
				continue
			}
			to, times := part.x, 0
			for times < 100 && b.p.Ins[to].Op == impl.IJump {
				to = b.p.Ins[to].A
				times++
			}
			if times > 0 {
				b.happened["followed from "+opNames[x.Op]]++
			}
			if times == 100 && b.p.Ins[to].Op == impl.IJump {
				b.happened["followed to the limit"]++
			}
			b.ins[i] = withField(x, f, to)
		}
	}
}

func (b *rulebook) reach() {
	for more := true; more; {
		more = false
		for i, x := range b.ins {
			if !b.left[i] {
				continue
			}
			for _, to := range followersOf(x, i) {
				more = more || !b.left[to]
				b.left[to] = true
			}
		}
	}
}

func (b *rulebook) take() {
	for i, x := range b.ins {
		if !b.left[i] {
			b.gone[i] = true
			b.happened["not reached"]++
			continue
		}
		next := i + 1
		for next < len(b.ins) && !b.left[next] {
			next++
		}
		if x.Op != impl.IJump || x.A != next {
			continue
		}
		left, gone := b.guardsAt(i)
		if left == 0 && gone > 0 {
			b.happened["a guard that went is at a jump"]++
		}
		switch {
		case i == 0:
			b.happened["instruction 0 is spared"]++
		case left > 0:
			b.happened["a handler is spared"]++
		default:
			b.gone[i] = true
			b.happened["idle"]++
			if next < len(b.ins) && b.ins[next].Op == impl.IJump {
				b.happened["idle ahead of a jump"]++
			}
		}
	}
}

// guardsAt is how many guards go on at this instruction that are left, and that went.
func (b *rulebook) guardsAt(i int) (left, gone int) {
	for j, x := range b.ins {
		if x.Op == impl.ITry && x.A == i && b.left[j] {
			left++
		} else if x.Op == impl.ITry && x.A == i {
			gone++
		}
	}
	return left, gone
}

// ahead is the number of instructions kept ahead of this one.
func (b *rulebook) ahead(n int) int {
	many := 0
	for i := range n {
		if !b.gone[i] {
			many++
		}
	}
	return many
}

func (b *rulebook) number() impl.Proto {
	out := b.p
	out.Ins, out.Named = nil, slices.Clone(b.p.Named)
	for i, x := range b.ins {
		if b.gone[i] {
			continue
		}
		for f, part := range partsOf(x) {
			if part.word == "ins" {
				x = withField(x, f, b.ahead(part.x))
			}
		}
		out.Ins = append(out.Ins, x)
	}
	for i, n := range out.Named {
		out.Named[i].From, out.Named[i].To = b.ahead(n.From), b.ahead(n.To)
	}
	return out
}

// scatterer gives the instructions of a proto another order, with jumps between them, alone and in rows, and with much that is never reached. Places are named by the old numbers, and those of jumps that come to them by higher ones.
type scatterer struct {
	*dice
	p      impl.Proto
	pieces [][]placed
	places int
	// All guards that went on at one place have to do so behind it.
	handlers map[int]int
}

// placed is an instruction and the name of its place.
type placed struct {
	place int
	ins   impl.Ins
}

func scattered(d *dice, c impl.Code) impl.Code {
	c.Protos = slices.Clone(c.Protos)
	for at, p := range c.Protos {
		s := &scatterer{dice: d, p: p, places: len(p.Ins), handlers: map[int]int{}}
		s.split()
		for range d.below(4) {
			s.idle()
		}
		c.Protos[at] = s.join()
	}
	return c
}

// split cuts the proto into pieces, each of which goes on at the next by a jump.
func (s *scatterer) split() {
	var piece []placed
	for i, x := range s.p.Ins {
		piece = append(piece, placed{i, s.led(x)})
		on := x.Op != impl.IJump && x.Op != impl.IReturn && x.Op != impl.IThrow
		if on && s.below(3) > 0 {
			continue
		}
		if on {
			piece = append(piece, s.jump(s.way(i+1)))
		}
		s.pieces = append(s.pieces, piece)
		piece = nil
	}
}

func (s *scatterer) fresh() int {
	s.places++
	return s.places - 1
}

func (s *scatterer) jump(to int) placed { return placed{s.fresh(), in(impl.IJump, to)} }

// led is an instruction whose target is mostly come to by jumps.
func (s *scatterer) led(x impl.Ins) impl.Ins {
	for f, part := range partsOf(x) {
		if part.word != "ins" {
			continue
		}
		to, there := s.handlers[part.x]
		if x.Op != impl.ITry || !there {
			to = s.way(part.x)
		}
		if x.Op == impl.ITry {
			s.handlers[part.x] = to
		}
		x = withField(x, f, to)
	}
	return x
}

// way is a place from which jumps lead to this one.
func (s *scatterer) way(to int) int {
	many := s.below(4)
	if s.below(60) == 0 {
		many = 98 + s.below(6)
	}
	for range many {
		j := s.jump(to)
		if last := len(s.pieces) - 1; last >= 0 && s.below(3) == 0 {
			// Behind what never goes on by itself, so that it stands in a row with it.
			s.pieces[last] = append(s.pieces[last], j)
		} else {
			s.pieces = append(s.pieces, []placed{j})
		}
		to = j.place
	}
	return to
}

// idle is a piece that is never reached: it ends in a jump into the code, into itself, or to and fro.
func (s *scatterer) idle() {
	var piece []placed
	first := s.places
	for range s.below(4) {
		x := s.p.Ins[s.below(len(s.p.Ins))]
		if x.Op != impl.IFn {
			piece = append(piece, placed{s.fresh(), s.led(x)})
		}
		if s.p.Regs > 1 && s.below(2) == 0 {
			piece = append(piece, placed{s.fresh(), in(impl.ITry, s.below(s.places))})
		}
	}
	last := s.jump(0)
	last.ins.A = []int{last.place, first, s.below(len(s.p.Ins))}[s.below(3)]
	s.pieces = append(s.pieces, append(piece, last))
}

func (s *scatterer) join() impl.Proto {
	for i := range s.pieces {
		j := i + s.below(len(s.pieces)-i)
		s.pieces[i], s.pieces[j] = s.pieces[j], s.pieces[i]
	}
	first := slices.IndexFunc(s.pieces, func(piece []placed) bool { return piece[0].place == 0 })
	if first < 0 || s.below(3) == 0 {
		s.pieces = slices.Insert(s.pieces, 0, []placed{s.jump(0)})
	} else {
		s.pieces[0], s.pieces[first] = s.pieces[first], s.pieces[0]
	}
	number, p := map[int]int{}, s.p
	p.Ins, p.Named = nil, nil
	for _, x := range slices.Concat(s.pieces...) {
		number[x.place] = len(p.Ins)
		p.Ins = append(p.Ins, x.ins)
	}
	for i, x := range p.Ins {
		for f, part := range partsOf(x) {
			if part.word == "ins" {
				p.Ins[i] = withField(x, f, number[part.x])
			}
		}
	}
	for range s.below(8) {
		n := impl.Named{Name: fmt.Sprint("n", s.below(3)), Reg: s.below(max(p.Regs, 1)), To: s.below(len(p.Ins) + 1)}
		n.From = s.below(n.To + 1)
		if p.Regs > 0 {
			p.Named = append(p.Named, n)
		}
	}
	return p
}

// tidiedByRules holds what the program makes of a code against the rules, and asks for what it makes of that.
func tidiedByRules(t *testing.T, what string, c impl.Code, happened map[string]int) impl.Code {
	t.Helper()
	got := tidied(t, what, c)
	if len(got.Protos) == 0 {
		happened["not verified"]++
		return got
	}
	for p := range c.Protos {
		wantProto(t, fmt.Sprint(what, ", proto ", p), got.Protos[p], tidyByRules(c.Protos[p], happened))
	}
	wellTidied(t, what+", once more", got, impl.Tidy(got))
	return got
}

// sameRuns asks that a code and what it was tidied to tell the same in the world of the tests, for several inputs.
func sameRuns(t *testing.T, what string, c, tidy impl.Code, ops map[int]int) {
	t.Helper()
	for seed := range uint64(3) {
		want, got := stepped(c, seed, 150, map[int]int{}), stepped(tidy, seed, 150, ops)
		if !slices.Equal(got, want) {
			t.Fatalf("%s, seed %d: got\n%s\nwant\n%s\nof %s", what, seed, got, want, showCode(c))
		}
	}
}

func TestTidyAgainstTheRules(t *testing.T) {
	t.Parallel()
	d := dice(31)
	g := &codeGrower{dice: &d}
	happened := map[string]int{}
	for round := range 4500 {
		c := g.grow()
		if impl.CheckCode(c) == (impl.CodeFault{}) && round%3 > 0 {
			c = scattered(&d, c)
			if fault := impl.CheckCode(c); fault != (impl.CodeFault{}) {
				t.Fatalf("round %d: scattered, it has the fault %v", round, fault)
			}
		}
		if round%5 == 4 {
			g.spoil(c)
		}
		what := fmt.Sprint("round ", round)
		tidy := tidiedByRules(t, what, c, happened)
		if len(tidy.Protos) > 0 {
			sameRuns(t, what, c, tidy, map[int]int{})
		}
		if t.Failed() {
			return
		}
	}
	wantHappened(t, happened, "not verified", "idle ahead of a jump")
}

func TestTidyOfCompiledUnits(t *testing.T) {
	t.Parallel()
	g := &grower{d: 29}
	happened, ops := map[string]int{}, map[int]int{}
	for round := range 800 {
		made := impl.Compile(g.grown())
		if made.Code != 0 {
			t.Fatalf("round %d: Code %d", round, made.Code)
		}
		what := fmt.Sprint("round ", round)
		tidy := tidiedByRules(t, what, made.Made, happened)
		sameRuns(t, what, made.Made, tidy, ops)
		if wild := scattered(&g.d, made.Made); insIn(wild) <= impl.MaxIns {
			tidy = tidiedByRules(t, what+", scattered", wild, happened)
			sameRuns(t, what+", scattered", wild, tidy, ops)
		}
		if t.Failed() {
			return
		}
	}
	wantHappened(t, happened)
	for op := 1; op <= opCount; op++ {
		if ops[op] < 10 {
			t.Errorf("instruction %s was stepped only %d times", opNames[op], ops[op])
		}
	}
}

// wantHappened asks that all that the rules speak of has come about, and this too.
func wantHappened(t *testing.T, happened map[string]int, more ...string) {
	t.Helper()
	t.Log(happened)
	all := append(more, "a proto stays as it was", "followed to the limit", "not reached", "idle", "instruction 0 is spared", "a handler is spared", "a guard that went is at a jump")
	for _, x := range goers {
		all = append(all, "followed from "+opNames[x.op])
	}
	for _, what := range all {
		if happened[what] < 10 {
			t.Errorf("%s: only %d times", what, happened[what])
		}
	}
}
