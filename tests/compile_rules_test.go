package tests

import (
	"fmt"
	"math"
	"slices"
	"strings"
	"testing"

	"loop.example/draft/impl"
)

// scribe writes the listing of a fn while chapter 5 is followed line by line. Jumps go to labels, a variable has its home from its declaration on, and what a NBreak leaves is looked for from its node upwards.
type scribe struct {
	o       oracle
	f       int
	fn      impl.Fn
	capt    []bool
	listing strings.Builder
	next    int
	labels  int
	top     int
	regs    int
	consts  []impl.Value
	home    map[int]int
	from    map[int]int
	to      map[int]int
	// tops are the tops ahead of the statements, exits and nexts the labels of the loops, all by node.
	tops  map[int]int
	exits map[int]string
	nexts map[int]string
}

// scribed is the code that the rules make of a valid unit.
func scribed(u impl.Unit) (impl.Code, string) {
	var c impl.Code
	var scribes []*scribe
	o := newOracle(u)
	for f, fn := range u.Fns {
		s := &scribe{o: o, f: f, fn: fn, capt: closedOver(u, f), home: map[int]int{}, from: map[int]int{}, to: map[int]int{},
			tops: map[int]int{}, exits: map[int]string{}, nexts: map[int]string{}}
		s.all()
		scribes = append(scribes, s)
		a := &assembler{consts: s.consts}
		p := impl.Proto{Name: fn.Name, Line: fn.Line, Params: fn.Params, Rest: fn.Rest, Regs: s.regs, Consts: s.consts, Ins: a.read(s.listing.String())}
		if a.wrong != "" {
			return c, a.wrong
		}
		for v, name := range fn.Vars {
			if home, there := s.home[v]; there {
				p.Named = append(p.Named, impl.Named{Name: name, Reg: home, From: s.from[v], To: s.to[v]})
			}
		}
		c.Protos = append(c.Protos, p)
	}
	for f, fn := range u.Fns {
		for _, x := range fn.Nodes {
			if x.Kind != impl.NFn {
				continue
			}
			for _, up := range u.Fns[x.Refs[0]].Ups {
				if up.Local {
					up.Index = scribes[f].home[up.Index]
				}
				c.Protos[x.Refs[0]].Ups = append(c.Protos[x.Refs[0]].Ups, up)
			}
		}
	}
	return c, ""
}

// ins writes an instruction: its name and its fields.
func (s *scribe) ins(words ...any) {
	fmt.Fprintln(&s.listing, words...)
	s.next++
}

func (s *scribe) label() string {
	s.labels++
	return fmt.Sprint("L", s.labels)
}

// here says that these labels stand ahead of the next instruction.
func (s *scribe) here(labels ...string) {
	for _, l := range labels {
		fmt.Fprintf(&s.listing, "%s:\n", l)
	}
}

func gone(reg int) string { return fmt.Sprint("~", reg) }

func (s *scribe) setTop(top int) {
	s.top = top
	s.used(top - 1)
}

func (s *scribe) used(reg int) { s.regs = max(s.regs, reg+1) }

func (s *scribe) drop(b int) {
	for r := b; r < s.top; r++ {
		s.ins("Drop", r)
	}
	s.setTop(b)
}

func (s *scribe) constant(x impl.Value) int {
	for i, y := range s.consts {
		if sameConst(x, y) {
			return i
		}
	}
	s.consts = append(s.consts, x)
	return len(s.consts) - 1
}

func (s *scribe) declare(v, home int) {
	s.home[v] = home
	if s.capt[v] {
		s.ins("Box", home, gone(home))
	}
}

func (s *scribe) name(vars ...int) {
	for _, v := range vars {
		s.from[v] = s.next
	}
}

func (s *scribe) forget(vars ...int) {
	for _, v := range vars {
		s.to[v] = s.next
	}
}

func (s *scribe) all() {
	s.setTop(s.fn.Params)
	if s.fn.Rest {
		s.setTop(s.fn.Params + 1)
	}
	for v := range s.fn.Params {
		s.declare(v, v)
		s.from[v] = 0
	}
	s.statement(len(s.fn.Nodes) - 1)
	r := s.top
	s.setTop(r + 1)
	s.ins("List", r)
	s.ins("Return", gone(r))
	for v := range s.fn.Params {
		s.forget(v)
	}
}

func (s *scribe) one(n int) {
	x, r := s.fn.Nodes[n], s.top
	kind := map[int]int{impl.NNil: impl.KNil, impl.NTrue: impl.KBool, impl.NFalse: impl.KBool, impl.NInt: impl.KInt, impl.NFlt: impl.KFlt, impl.NStr: impl.KStr, impl.NBuiltin: impl.KBuiltin}
	switch x.Kind {
	case impl.NTrue:
		s.ins("Const", r, s.constant(impl.Value{Kind: impl.KBool, Num: 1}))
	case impl.NFlt:
		s.ins("Const", r, s.constant(impl.Value{Kind: impl.KFlt, Flt: x.Flt}))
	case impl.NNil, impl.NFalse, impl.NInt, impl.NStr, impl.NBuiltin:
		s.ins("Const", r, s.constant(impl.Value{Kind: kind[x.Kind], Num: x.Num, Str: x.Str}))
	case impl.NVar:
		s.ins(map[bool]string{false: "Move", true: "Get"}[s.capt[x.Refs[0]]], r, s.home[x.Refs[0]])
	case impl.NUp:
		s.ins("UpGet", r, x.Refs[0])
	case impl.NRest:
		s.ins("Pick", r, s.fn.Params, 0)
	case impl.NFn:
		s.ins("Fn", r, x.Refs[0])
	case impl.NAnd, impl.NOr:
		end := s.label()
		s.one(x.Kids[0])
		s.ins(map[int]string{impl.NAnd: "Unless", impl.NOr: "If"}[x.Kind], r, end)
		s.ins("Drop", r)
		s.setTop(r)
		s.one(x.Kids[1])
		s.here(end)
	case impl.NUnary:
		s.one(x.Kids[0])
		s.ins("Unary", r, x.Op, gone(r))
	case impl.NBinary:
		s.one(x.Kids[0])
		s.one(x.Kids[1])
		s.ins("Binary", r, x.Op, gone(r), gone(r+1))
	case impl.NIndex:
		s.one(x.Kids[0])
		s.one(x.Kids[1])
		s.ins("Index", r, gone(r), gone(r+1))
	case impl.NCall:
		s.many(n)
		s.ins("First", r, gone(r))
	case impl.NOne:
		s.many(x.Kids[0])
		s.ins("First", r, gone(r))
	case impl.NTable:
		s.table(x)
	}
	s.setTop(r + 1)
}

func (s *scribe) table(x impl.Node) {
	r := s.top
	s.ins("Table", r)
	for i := 0; i < len(x.Kids); i += 2 {
		s.setTop(r + 1)
		s.one(x.Kids[i])
		if x.Op == 1 && i+2 == len(x.Kids) {
			s.many(x.Kids[i+1])
			s.ins("RawAll", r, gone(r+1), gone(r+2))
		} else {
			s.one(x.Kids[i+1])
			s.ins("Raw", r, gone(r+1), gone(r+2))
		}
	}
}

func (s *scribe) many(n int) {
	x, r := s.fn.Nodes[n], s.top
	if x.Kind == impl.NRest {
		s.ins("Copy", r, s.fn.Params)
	} else {
		s.one(x.Kids[0])
		s.list(x.Kids[1:])
		s.ins("Call", r, gone(r), gone(r+1))
	}
	s.setTop(r + 1)
}

func (s *scribe) list(kids []int) {
	r := s.top
	s.ins("List", r)
	s.setTop(r + 1)
	for i, n := range kids {
		if kind := s.fn.Nodes[n].Kind; i+1 == len(kids) && (kind == impl.NCall || kind == impl.NRest) {
			s.many(n)
			s.ins("Join", r, gone(r+1))
		} else {
			s.one(n)
			s.ins("Add", r, gone(r+1))
		}
		s.setTop(r + 1)
	}
}

func (s *scribe) hasDefer(x impl.Node) bool {
	return slices.ContainsFunc(x.Kids, func(n int) bool { return s.fn.Nodes[n].Kind == impl.NDefer })
}

func (s *scribe) statement(n int) {
	x, r := s.fn.Nodes[n], s.top
	s.tops[n] = r
	if x.Kind != impl.NBlock {
		s.ins("Line", x.Line)
	}
	switch x.Kind {
	case impl.NBlock:
		s.block(x)
	case impl.NLet:
		s.let(x)
		return
	case impl.NSet:
		s.set(x)
	case impl.NDo:
		s.many(x.Kids[0])
		s.drop(r)
	case impl.NIf:
		s.branch(x)
	case impl.NWhile, impl.NFor, impl.NEach:
		s.exits[n], s.nexts[n] = s.label(), s.label()
		map[int]func(int){impl.NWhile: s.while, impl.NFor: s.count, impl.NEach: s.each}[x.Kind](n)
	case impl.NBreak, impl.NNext:
		s.leave(n)
	case impl.NReturn:
		s.list(x.Kids)
		s.ins("Return", gone(r))
	case impl.NTry:
		s.try(x)
	case impl.NThrow:
		s.one(x.Kids[0])
		s.ins("Throw", gone(r))
	case impl.NDefer:
		s.one(s.fn.Nodes[x.Kids[0]].Kids[0])
		s.list(s.fn.Nodes[x.Kids[0]].Kids[1:])
		s.ins("Defer", gone(r), gone(r+1))
	}
	s.setTop(r)
}

func (s *scribe) block(x impl.Node) {
	b, guarded := s.top, s.hasDefer(x)
	if guarded {
		s.ins("Scope", b)
	}
	for _, n := range x.Kids {
		s.statement(n)
		if s.fn.Nodes[n].Kind == impl.NLet && guarded {
			s.ins("Keep", s.top)
		}
	}
	if guarded {
		s.ins("Leave")
	}
	for _, n := range x.Kids {
		if s.fn.Nodes[n].Kind == impl.NLet {
			s.forget(s.fn.Nodes[n].Refs...)
		}
	}
	s.drop(b)
}

// values puts those of so many expressions into so many registers; they are not one and one.
func (s *scribe) values(k int, kids []int) {
	r := s.top
	s.setTop(r + k)
	s.list(kids)
	for j := range k {
		s.ins("Pick", r+j, r+k, j)
	}
	s.ins("Drop", r+k)
	s.setTop(r + k)
}

func (s *scribe) let(x impl.Node) {
	r := s.top
	switch {
	case len(x.Refs) == 1 && len(x.Kids) == 1:
		s.one(x.Kids[0])
	case len(x.Kids) == 0:
		for range x.Refs {
			s.ins("Const", s.top, s.constant(impl.Value{}))
			s.setTop(s.top + 1)
		}
	default:
		s.values(len(x.Refs), x.Kids)
	}
	for j, v := range x.Refs {
		s.declare(v, r+j)
	}
	s.name(x.Refs...)
}

func (s *scribe) set(x impl.Node) {
	parts := map[int]int{}
	for _, n := range x.Kids[:x.Num] {
		if target := s.fn.Nodes[n]; target.Kind == impl.NIndex {
			parts[n] = s.top
			s.one(target.Kids[0])
			s.one(target.Kids[1])
		}
	}
	v := s.top
	if x.Num == 1 && len(x.Kids) == 2 {
		s.one(x.Kids[1])
	} else {
		s.values(int(x.Num), x.Kids[x.Num:])
	}
	for j, n := range x.Kids[:x.Num] {
		target := s.fn.Nodes[n]
		switch {
		case target.Kind == impl.NIndex:
			s.ins("Set", gone(parts[n]), gone(parts[n]+1), gone(v+j))
		case target.Kind == impl.NUp:
			s.ins("UpPut", target.Refs[0], gone(v+j))
		case s.capt[target.Refs[0]]:
			s.ins("Put", s.home[target.Refs[0]], gone(v+j))
		default:
			s.ins("Move", s.home[target.Refs[0]], gone(v+j))
		}
	}
}

func (s *scribe) branch(x impl.Node) {
	r, other, end := s.top, s.label(), s.label()
	s.one(x.Kids[0])
	s.ins("Unless", gone(r), other)
	s.setTop(r)
	s.statement(x.Kids[1])
	if len(x.Kids) == 3 {
		s.ins("Jump", end)
		s.here(other)
		s.statement(x.Kids[2])
		s.here(end)
	} else {
		s.here(other)
	}
}

func (s *scribe) while(n int) {
	x, r, begin := s.fn.Nodes[n], s.top, s.label()
	s.here(begin)
	s.ins("Tick")
	s.one(x.Kids[0])
	s.ins("Unless", gone(r), s.exits[n])
	s.setTop(r)
	s.statement(x.Kids[1])
	s.here(s.nexts[n])
	s.ins("At", x.Line)
	s.ins("Jump", begin)
	s.here(s.exits[n])
}

func (s *scribe) count(n int) {
	x, r, test := s.fn.Nodes[n], s.top, s.label()
	s.one(x.Kids[0])
	s.one(x.Kids[1])
	s.one(x.Kids[2])
	s.ins("For", r)
	s.here(test)
	s.ins("ForTest", r, s.exits[n])
	s.ins("Tick")
	s.ins("Move", r+3, r)
	s.setTop(r + 4)
	s.declare(x.Refs[0], r+3)
	s.name(x.Refs[0])
	s.statement(x.Kids[3])
	s.forget(x.Refs[0])
	s.drop(r + 3)
	s.here(s.nexts[n])
	s.ins("At", x.Line)
	s.ins("ForNext", r, test)
	s.here(s.exits[n])
	s.drop(r)
}

func (s *scribe) each(n int) {
	x, r, test := s.fn.Nodes[n], s.top, s.label()
	s.one(x.Kids[0])
	s.used(r + 1)
	s.ins("Each", r)
	s.here(test)
	s.ins("EachNext", r, s.exits[n], r+2)
	for j, v := range x.Refs {
		s.ins("Pick", r+3+j, r+2, j)
		s.declare(v, r+3+j)
	}
	s.setTop(r + 3 + len(x.Refs))
	s.ins("Drop", r+2)
	s.name(x.Refs...)
	s.statement(x.Kids[1])
	s.forget(x.Refs...)
	s.drop(r + 2)
	s.here(s.nexts[n])
	s.ins("At", x.Line)
	s.ins("Jump", test)
	s.here(s.exits[n])
	s.drop(r)
}

func (s *scribe) leave(n int) {
	ahead := s.top
	for _, step := range s.o.path(s.f, n) {
		around := step[0]
		x, r := s.fn.Nodes[around], s.tops[around]
		switch {
		case x.Kind == impl.NBlock && s.hasDefer(x):
			s.ins("Leave")
			s.drop(r)
		case x.Kind == impl.NBlock:
			s.drop(r)
		case x.Kind == impl.NTry && step[1] == 0:
			s.ins("EndTry")
		case x.Kind == impl.NTry:
			s.drop(r)
		}
		if exit, isLoop := s.exits[around]; isLoop {
			s.drop(r + map[int]int{impl.NWhile: 0, impl.NFor: 3, impl.NEach: 2}[x.Kind])
			s.ins("Jump", map[int]string{impl.NBreak: exit, impl.NNext: s.nexts[around]}[s.fn.Nodes[n].Kind])
			break
		}
	}
	s.setTop(ahead)
}

func (s *scribe) try(x impl.Node) {
	r, handler, end := s.top, s.label(), s.label()
	s.used(r + 1)
	s.ins("Try", handler, r)
	s.statement(x.Kids[0])
	s.ins("EndTry")
	s.ins("Jump", end)
	s.here(handler)
	s.setTop(r + 2)
	s.declare(x.Refs[0], r)
	s.declare(x.Refs[1], r+1)
	s.name(x.Refs...)
	s.statement(x.Kids[1])
	s.forget(x.Refs...)
	s.drop(r)
	s.here(end)
}

// dress gives the statements of a grown unit lines, its consts values, and its variables names of their own; nodes without a float get zeros with a sign now and then.
func (g *grower) dress(u *impl.Unit) {
	for f := range u.Fns {
		fn := &u.Fns[f]
		fn.Name, fn.Line = fmt.Sprint("fn", f), f
		for v := range fn.Vars {
			fn.Vars[v] = fmt.Sprintf("f%dv%d", f, v)
		}
		for n := range fn.Nodes {
			g.dressNode(&fn.Nodes[n])
		}
	}
}

func (g *grower) dressNode(x *impl.Node) {
	if isStatement(x.Kind) {
		x.Line = 1 + g.d.below(500)
	}
	if g.d.below(8) == 0 {
		x.Flt = math.Copysign(0, -1)
	}
	switch x.Kind {
	case impl.NInt:
		x.Num = int64(g.d.below(4))
	case impl.NFlt:
		x.Flt = []float64{0, math.Copysign(0, -1), 1, 2.5}[g.d.below(4)]
	case impl.NStr:
		x.Str = []string{"", "a", "b"}[g.d.below(3)]
	case impl.NBuiltin:
		x.Num = int64(g.d.below(impl.Builtins))
	}
}

// grown is a valid unit, dressed.
func (g *grower) grown() impl.Unit {
	for {
		u := g.unit()
		g.dress(&u)
		if impl.CheckUnit(u) != (impl.Fault{}) {
			continue
		}
		g.shuffle(&u)
		if g.d.below(2) == 0 {
			g.renumber(&u)
		}
		return u
	}
}

func TestCompileAgainstTheRules(t *testing.T) {
	t.Parallel()
	g := &grower{d: 5}
	ops := map[int]int{}
	refused := 0
	for round := range 2000 {
		u := g.grown()
		want, wrong := scribed(u)
		if wrong != "" {
			t.Fatalf("round %d: the listing: %s", round, wrong)
		}
		got := compile(t, u)
		if impl.CheckCode(want) != (impl.CodeFault{}) {
			refused++
			if got.Code != 2 {
				t.Fatalf("round %d: Code %d of what is too large", round, got.Code)
			}
			continue
		}
		if showCompiled(got) != showCompiled(impl.Compiled{Made: want}) {
			t.Fatalf("round %d: got\n%s\nwant\n%s\nof %s", round, showCompiled(got), showCompiled(impl.Compiled{Made: want}), show(u))
		}
		for _, p := range want.Protos {
			for _, x := range p.Ins {
				ops[x.Op]++
			}
		}
		if t.Failed() {
			t.Fatalf("round %d: %s", round, show(u))
		}
	}
	t.Log("too large: ", refused, ", instructions: ", ops)
	for op := 1; op <= opCount; op++ {
		if ops[op] < 100 {
			t.Errorf("instruction %s came only %d times", opNames[op], ops[op])
		}
	}
}
