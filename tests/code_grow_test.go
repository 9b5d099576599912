package tests

import (
	"fmt"
	"slices"
	"strings"
	"testing"

	"loop.example/draft/impl"
)

// codeGrower grows codes most of which are verified: it keeps the state at hand, and takes what fits to it.
type codeGrower struct {
	*dice
	code  impl.Code
	maker []int
}

// body is a proto that is being grown.
type body struct {
	*codeGrower
	at    int
	p     *impl.Proto
	types string
	// Ahead of each instruction that was grown, the state there.
	guards []impl.Guard
	were   []condition
	open   []gap
	fns    []int
}

// gap is a field that names an instruction that is not yet there, and the state that it must have.
type gap struct {
	ins   int
	state condition
}

func (g *codeGrower) grow() impl.Code {
	many := 1 + g.below(4)
	g.code = impl.Code{Protos: make([]impl.Proto, many)}
	g.maker = make([]int, many)
	for p := 1; p < many; p++ {
		g.maker[p] = g.below(p)
	}
	for p := range many {
		g.growProto(p)
	}
	return g.code
}

func (g *codeGrower) growProto(at int) {
	p := &g.code.Protos[at]
	p.Name, p.Line = names(at + 1)[at], g.below(50)
	p.Regs = 2 + g.below(7)
	p.Consts = []impl.Value{{}, intConst(int64(at)), {Kind: impl.KStr, Str: "s"}}[:1+g.below(3)]
	if at > 0 {
		p.Params = g.below(p.Regs)
	}
	p.Rest = g.below(2) == 0
	b := &body{codeGrower: g, at: at, p: p, types: strings.Repeat("v", p.Params)}
	if p.Rest {
		b.types += "l"
	}
	b.types += strings.Repeat(".", p.Regs-len(b.types))
	for q := at + 1; q < len(g.code.Protos); q++ {
		if g.maker[q] == at {
			b.fns = append(b.fns, q)
		}
	}
	b.fill(8 + g.below(25))
	for range g.below(4) {
		n := impl.Named{Name: "n", Reg: g.below(p.Regs), To: g.below(len(p.Ins) + 1)}
		n.From = g.below(n.To + 1)
		p.Named = append(p.Named, n)
	}
}

func (b *body) fill(many int) {
	for tries := 0; len(b.p.Ins) < many && tries < 20*many; tries++ {
		op := 1 + b.below(opCount)
		switch op {
		case impl.IReturn, impl.IThrow, impl.IJump:
			if b.below(4) > 0 {
				continue
			}
		case impl.IFn:
			continue
		}
		if b.below(12) == 0 && len(b.fns) > 0 {
			b.makeFn()
		} else if !b.try(op) {
			continue
		}
		if last := b.p.Ins[len(b.p.Ins)-1].Op; last == impl.IJump || last == impl.IReturn || last == impl.IThrow {
			if !b.pickUp() {
				break
			}
		}
	}
	b.finish()
}

func (b *body) now() condition { return condition{b.types, slices.Clone(b.guards)} }

func (b *body) put(x impl.Ins) {
	b.were = append(b.were, b.now())
	b.p.Ins = append(b.p.Ins, x)
}

func (b *body) highest() int {
	high := 0
	for _, g := range b.guards {
		if g.Try {
			high = max(high, g.Keep)
		}
	}
	return high
}

// register is one that holds this, from low on; -1 when there is none.
func (b *body) register(types, holds string, low int) int {
	var fit []int
	for reg := low; reg+len(holds) <= len(types); reg++ {
		if types[reg:reg+len(holds)] == holds {
			fit = append(fit, reg)
		}
	}
	if len(fit) == 0 {
		return -1
	}
	return fit[b.below(len(fit))]
}

// target is the register into which something is put: mostly above all that is kept.
func (b *body) target(letter byte) int {
	reg := b.below(b.p.Regs)
	if reg < b.highest() && b.types[reg] != letter && b.below(60) > 0 {
		return -1
	}
	return reg
}

// choose gives a field of this word, if there is one that fits.
func (b *body) choose(word, types string, places []int) (int, bool) {
	high := b.highest()
	spans := sizes{b.p.Regs, len(b.p.Consts), len(b.p.Ups), 0}
	x := -1
	switch {
	case word == "v" || word == "l":
		x = b.register(types, word, 0)
		if x >= high && b.below(2) == 0 && !slices.Contains(places, x) {
			return took(x), true
		}
	case word == "@v.":
		x = b.register(types, "v.", high)
	case word[0] == '@':
		x = b.register(types, word[1:], 0)
	case word[0] == '=':
		x = b.target(word[1])
	case word == "keep" && high <= b.p.Regs:
		x = high + b.below(b.p.Regs-high+1)
	case word == "trykeep" && high <= b.p.Regs-2:
		x = high + b.below(b.p.Regs-1-high)
	case word == "ins":
		return 0, true
	case word == "line" || word == "line0" || word == "element" || word == "unary" || word == "binary" || word == "const" || word == "up":
		if s := spans.span(word); s.low <= s.high {
			x = s.low + b.below(s.high-s.low+1)
		}
	}
	return x, x >= 0
}

// try grows an instruction of this Op, if there is what it asks for.
func (b *body) try(op int) bool {
	x := impl.Ins{Op: op}
	types := b.types
	var places []int
	for i, word := range strings.Fields(opTable[op]) {
		value, there := b.choose(word, types, places)
		if !there {
			return false
		}
		x = withField(x, i, value)
		if word[0] == '@' {
			places = append(places, value)
		}
		if value < 0 {
			types = with(types, -1-value, '.')
		}
	}
	o := codeOracle{b.code}
	if !o.guardsRight(x, b.guards) || len(b.p.Ups) == 0 && (op == impl.IUpGet || op == impl.IUpPut) {
		return false
	}
	behind, _, right := o.registers(x, b.types)
	if !right {
		return false
	}
	b.place(x, behind)
	return true
}

// place puts the instruction in, and sees to where it goes on.
func (b *body) place(x impl.Ins, behind string) {
	backward := b.below(3) == 0
	if backward && b.below(5) > 0 {
		b.put(in(impl.ITick))
	}
	i := len(b.p.Ins)
	ways := codeOracle{b.code}.ways(x, i, b.now(), behind)
	b.put(x)
	for j, w := range ways {
		if j == 0 && x.Op != impl.IJump {
			continue
		}
		b.open = append(b.open, gap{i, w.with})
		if backward {
			b.close(b.back(w.with))
		}
	}
	if len(ways) > 0 && ways[0].to == i+1 {
		b.types, b.guards = ways[0].with.types, slices.Clone(ways[0].with.guards)
	}
	if x.Op == impl.ITry {
		b.guards[len(b.guards)-1].Handler = -1 - i
	}
}

// back is an earlier instruction that has this state; -1 when there is none.
func (b *body) back(state condition) int {
	for _, i := range []int{b.below(len(b.were)), b.below(len(b.were)), b.below(len(b.were))} {
		if b.were[i].String() == state.String() {
			return i
		}
	}
	return -1
}

// close lets the last gap name this instruction.
func (b *body) close(to int) {
	last := len(b.open) - 1
	if to < 0 || last < 0 {
		return
	}
	b.aim(b.open[last].ins, to)
	b.open = b.open[:last]
}

func (b *body) aim(ins, to int) {
	x := b.p.Ins[ins]
	for i, f := range partsOf(x) {
		if f.word == "ins" {
			b.p.Ins[ins] = withField(x, i, to)
		}
	}
}

// pickUp goes on with the state of some gap, behind an instruction that does not go on itself.
func (b *body) pickUp() bool {
	if len(b.open) == 0 {
		return false
	}
	i := b.below(len(b.open))
	g := b.open[i]
	b.open = slices.Delete(b.open, i, i+1)
	b.aim(g.ins, len(b.p.Ins))
	b.types, b.guards = g.state.types, slices.Clone(g.state.guards)
	return true
}

// makeFn grows the IFn of the next proto that is to be made here; its Ups are what is there.
func (b *body) makeFn() {
	q := b.fns[0]
	b.fns = b.fns[1:]
	for range b.below(4) {
		if reg := b.register(b.types, "b", 0); reg >= 0 && b.below(3) > 0 {
			b.code.Protos[q].Ups = append(b.code.Protos[q].Ups, local(reg))
		} else if len(b.p.Ups) > 0 {
			b.code.Protos[q].Ups = append(b.code.Protos[q].Ups, outer(b.below(len(b.p.Ups))))
		}
	}
	reg := b.below(b.p.Regs)
	b.place(in(impl.IFn, reg, q), with(b.types, reg, 'v'))
}

// finish makes what is still to be made, and gives an end to each way that is open.
func (b *body) finish() {
	if last := len(b.p.Ins) - 1; last >= 0 && len(b.open) == 0 && b.p.Ins[last].Op == impl.IJump && len(b.fns) == 0 {
		return
	}
	for len(b.fns) > 0 {
		b.makeFn()
	}
	b.end()
	for b.pickUp() {
		b.end()
	}
}

func (b *body) end() {
	if reg := b.register(b.types, "v", b.highest()); reg >= 0 && b.below(2) == 0 {
		b.put(in(impl.IThrow, took(reg)))
		return
	}
	if reg := b.register(b.types, "l", 0); reg >= 0 && b.below(2) == 0 {
		b.put(in(impl.IReturn, reg))
		return
	}
	b.put(in(impl.ITick))
	b.put(in(impl.IJump, len(b.p.Ins)-1))
}

// spoil changes one thing somewhere.
func (g *codeGrower) spoil(c impl.Code) {
	p := &c.Protos[g.below(len(c.Protos))]
	if g.below(6) == 0 || len(p.Ins) == 0 || p.Regs < 1 {
		g.spoilHead(p)
		return
	}
	i := g.below(len(p.Ins))
	x := &p.Ins[i]
	field := g.below(4)
	old := []int{x.A, x.B, x.C, x.D}[field]
	switch g.below(9) {
	case 0:
		x.Op = g.below(opCount + 2)
	case 1, 2:
		*x = withField(*x, field, old+g.below(3)-1)
	case 3:
		*x = withField(*x, field, took(old))
	case 4:
		*x = withField(*x, field, g.below(p.Regs+2)-g.below(3))
	case 5:
		if j := g.below(len(p.Ins)); j+1 < len(p.Ins) && i+1 < len(p.Ins) {
			p.Ins[i], p.Ins[j] = p.Ins[j], p.Ins[i]
		}
	case 6:
		*x = in(impl.IDrop, g.below(p.Regs+1))
	case 7:
		*x = in(impl.IAt, 0)
	case 8:
		*x = in(impl.IJump, g.below(len(p.Ins)))
	}
}

func (g *codeGrower) spoilHead(p *impl.Proto) {
	switch g.below(8) {
	case 0:
		p.Regs += g.below(3) - 1
	case 1:
		p.Params += g.below(3) - 1
	case 2:
		p.Rest = !p.Rest
	case 3:
		p.Ups = append(slices.Clone(p.Ups), impl.Up{Local: g.below(2) == 0, Index: g.below(4) - 1})
	case 4:
		p.Consts[g.below(len(p.Consts))] = impl.Value{Kind: g.below(10), Num: int64(g.below(3))}
	case 5:
		p.Named = append(p.Named, impl.Named{Name: longText(g.below(3)), Reg: g.below(9), From: g.below(9), To: g.below(20)})
	case 6:
		p.Ins = p.Ins[:g.below(len(p.Ins)+1)]
	case 7:
		p.Ups = p.Ups[:g.below(len(p.Ups)+1)]
	}
}

func TestCodesAgainstTheDocument(t *testing.T) {
	t.Parallel()
	d := dice(11)
	g := &codeGrower{dice: &d}
	told := map[int]int{}
	seen := map[int]int{}
	for round := range 12000 {
		c := g.grow()
		for range round % 4 {
			g.spoil(c)
		}
		fault := against(t, fmt.Sprint("round ", round), c)
		told[fault.Code]++
		if fault.Code > 0 {
			continue
		}
		for p := range c.Protos {
			for i, s := range impl.States(c, p) {
				if s.Reached {
					seen[c.Protos[p].Ins[i].Op]++
				}
			}
		}
		if t.Failed() {
			return
		}
	}
	for _, code := range []int{0, 2, 3, 4, 5, 6, 7, 10, 11, 12, 13, 14} {
		if told[code] < 20 {
			t.Errorf("code %d was told %d times", code, told[code])
		}
	}
	for op := 1; op <= opCount; op++ {
		if seen[op] < 20 {
			t.Errorf("op %d was reached %d times in a verified code", op, seen[op])
		}
	}
}

// Every instruction with small fields, ahead of which three registers hold whatever they can, under each sort of guard.
func TestSmallCodesAgainstTheDocument(t *testing.T) {
	t.Parallel()
	d := dice(12)
	for round := range 60000 {
		types := ""
		for range 3 {
			types += string(".vbl"[d.below(4)])
		}
		all := filling(types)
		start := len(all)
		for range d.below(3) {
			all = append(all, []impl.Ins{in(impl.ITry, 0, d.below(2)), in(impl.IScope, d.below(4))}[d.below(2)])
		}
		all = append(all, smallIns(&d), smallIns(&d), smallIns(&d), in(impl.ITick), in(impl.IJump, 0), in(impl.ITick), in(impl.IJump, 0))
		last := len(all)
		all[last-1].A, all[last-3].A = last-2, last-4
		for i := start; i < last-4; i++ {
			for j, f := range partsOf(all[i]) {
				if f.word == "ins" {
					all[i] = withField(all[i], j, last-1-d.below(6))
				}
			}
		}
		c := code(proto(3, all...))
		against(t, fmt.Sprint("round ", round), c)
		if t.Failed() {
			return
		}
	}
}

func smallIns(d *dice) impl.Ins {
	x := impl.Ins{Op: 1 + d.below(opCount)}
	for x.Op == impl.IFn {
		x.Op = 1 + d.below(opCount)
	}
	for i, word := range strings.Fields(opTable[x.Op]) {
		s := sizes{3, 2, 1, 8}.span(word)
		switch {
		case word == "v" || word == "l":
			s = span{-3, 2}
		case word[0] == '@' || word[0] == '=':
			s = span{0, 4 - len(word)}
		}
		x = withField(x, i, s.low+d.below(s.high-s.low+1))
	}
	if x.Op == impl.IUpGet || x.Op == impl.IUpPut {
		x.A, x.B = 0, 0
	}
	return x
}
