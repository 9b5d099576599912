package tests

import (
	"fmt"
	"slices"
	"testing"

	"loop.example/draft/impl"
)

// sound sees to it that what a unit has become is what the promises say of all units.
func sound(t *testing.T, u impl.Unit, c impl.Compiled) {
	t.Helper()
	if fault := impl.CheckUnit(u); (c.Code == 1) != (fault != impl.Fault{}) {
		t.Errorf("Code %d of a unit with the fault %v", c.Code, fault)
	}
	if c.Code < 0 || c.Code > 2 || c.Code > 0 && len(c.Made.Protos) > 0 {
		t.Errorf("Code %d with %d protos", c.Code, len(c.Made.Protos))
	}
	if c.Code != 0 {
		return
	}
	if fault := impl.CheckCode(c.Made); fault != (impl.CodeFault{}) {
		t.Errorf("the code has the fault %v: %s", fault, show(u))
		return
	}
	if len(c.Made.Protos) != len(u.Fns) {
		t.Errorf("%d protos for %d fns", len(c.Made.Protos), len(u.Fns))
		return
	}
	o := newOracle(u)
	for f := range u.Fns {
		rules := []func(impl.Code, int) string{o.wrongProtoHead, o.wrongNamed, o.wrongUps, o.wrongBoxes, o.wrongConsts, o.wrongLines, o.wrongTurns, o.wrongStates}
		for _, rule := range rules {
			if wrong := rule(c.Made, f); wrong != "" {
				t.Errorf("fn %d: %s in %s\n%s", f, wrong, show(u), written(c.Made.Protos[f].Ins))
				return
			}
		}
	}
}

func (o oracle) wrongProtoHead(c impl.Code, f int) string {
	fn, p := o.u.Fns[f], c.Protos[f]
	if p.Name != fn.Name || p.Line != fn.Line || p.Params != fn.Params || p.Rest != fn.Rest {
		return "another head"
	}
	return ""
}

func (o oracle) wrongNamed(c impl.Code, f int) string {
	fn, p := o.u.Fns[f], c.Protos[f]
	home, i := impl.Homes(o.u, f), 0
	for v, name := range fn.Vars {
		if home[v] == -1 {
			continue
		}
		if i >= len(p.Named) || p.Named[i].Name != name || p.Named[i].Reg != home[v] {
			return fmt.Sprintf("variable %d is not named at home: %v", v, p.Named)
		}
		if x := p.Named[i]; v < fn.Params && (x.From != 0 || x.To != len(p.Ins)) {
			return fmt.Sprintf("parameter %d is named from %d to %d", v, x.From, x.To)
		}
		i++
	}
	if i != len(p.Named) {
		return fmt.Sprintf("%d names, want %d", len(p.Named), i)
	}
	return ""
}

func (o oracle) wrongUps(c impl.Code, f int) string {
	fn, p := o.u.Fns[f], c.Protos[f]
	if len(p.Ups) != len(fn.Ups) {
		return fmt.Sprintf("%d ups, want %d", len(p.Ups), len(fn.Ups))
	}
	for g, around := range o.u.Fns {
		if !slices.ContainsFunc(around.Nodes, func(x impl.Node) bool { return x.Kind == impl.NFn && x.Refs[0] == f }) {
			continue
		}
		home := impl.Homes(o.u, g)
		for i, up := range fn.Ups {
			if up.Local {
				up.Index = home[up.Index]
			}
			if p.Ups[i] != up {
				return fmt.Sprintf("up %d is %v, want %v", i, p.Ups[i], up)
			}
		}
	}
	return ""
}

// A variable is boxed once, at home, when it is captured, and never otherwise.
func (o oracle) wrongBoxes(c impl.Code, f int) string {
	var boxed, want []int
	for _, x := range c.Protos[f].Ins {
		if x.Op == impl.IBox {
			boxed = append(boxed, x.A)
			if x.B != took(x.A) {
				return fmt.Sprint("a box in ", x.A, " of what is elsewhere")
			}
		}
	}
	home := impl.Homes(o.u, f)
	for v, isCaptured := range impl.Captured(o.u, f) {
		if isCaptured {
			want = append(want, home[v])
		}
	}
	slices.Sort(boxed)
	slices.Sort(want)
	if !slices.Equal(boxed, want) {
		return fmt.Sprintf("boxed are %v, want %v", boxed, want)
	}
	return ""
}

// Each const is there once, and they come in the order in which they are wanted.
func (o oracle) wrongConsts(c impl.Code, f int) string {
	p, next := c.Protos[f], 0
	for _, x := range p.Ins {
		if x.Op == impl.IConst && x.B >= next {
			if x.B > next {
				return fmt.Sprint("const ", x.B, " is wanted ahead of ", next)
			}
			next++
		}
	}
	if next != len(p.Consts) {
		return "a const that is never wanted"
	}
	for i, x := range p.Consts {
		if slices.ContainsFunc(p.Consts[:i], func(y impl.Value) bool { return sameConst(x, y) }) {
			return fmt.Sprint("const ", i, " is there twice")
		}
	}
	return ""
}

// inOrder are the statements of a fn but its NBlocks in the order in which they stand in the text; with inside, those that are in one come ahead of it.
func (o oracle) inOrder(f, n int, inside bool) (list []int) {
	x := o.u.Fns[f].Nodes[n]
	if !isStatement(x.Kind) {
		return nil
	}
	for _, kid := range x.Kids {
		list = append(list, o.inOrder(f, kid, inside)...)
	}
	switch {
	case x.Kind == impl.NBlock:
	case inside:
		list = append(list, n)
	default:
		list = append([]int{n}, list...)
	}
	return list
}

func argumentsOf(list []impl.Ins, op int) (out []int) {
	for _, x := range list {
		if x.Op == op {
			out = append(out, x.A)
		}
	}
	return out
}

// There is an ILine for each statement but a NBlock.
func (o oracle) wrongLines(c impl.Code, f int) string {
	nodes := o.u.Fns[f].Nodes
	var want []int
	for _, n := range o.inOrder(f, len(nodes)-1, false) {
		want = append(want, nodes[n].Line)
	}
	if got := argumentsOf(c.Protos[f].Ins, impl.ILine); !slices.Equal(got, want) {
		return fmt.Sprintf("lines are %v, want %v", got, want)
	}
	return ""
}

// Each loop has its line at hand again ahead of a turn, and each turn has a tick, that of a NEach by its own instruction.
func (o oracle) wrongTurns(c impl.Code, f int) string {
	nodes, list := o.u.Fns[f].Nodes, c.Protos[f].Ins
	var want []int
	many := map[int]int{}
	for _, n := range o.inOrder(f, len(nodes)-1, true) {
		many[nodes[n].Kind]++
		if slices.Contains([]int{impl.NWhile, impl.NFor, impl.NEach}, nodes[n].Kind) {
			want = append(want, nodes[n].Line)
		}
	}
	if got := argumentsOf(list, impl.IAt); !slices.Equal(got, want) {
		return fmt.Sprintf("lines of loops are %v, want %v", got, want)
	}
	count := func(op int) int { return len(argumentsOf(list, op)) }
	if count(impl.ITick) != many[impl.NWhile]+many[impl.NFor] {
		return "too many or too few ticks"
	}
	for _, op := range []int{impl.IFor, impl.IForTest, impl.IForNext} {
		if count(op) != many[impl.NFor] {
			return "another number of NFors"
		}
	}
	if count(impl.IEach) != many[impl.NEach] || count(impl.IEachNext) != many[impl.NEach] {
		return "another number of NEachs"
	}
	for i, x := range list {
		if x.Op == impl.IForTest && list[i+1].Op != impl.ITick {
			return "a turn of a NFor without a tick"
		}
	}
	return ""
}

// holding is what the registers hold and which guards are on ahead of a statement, told from the unit alone.
type holding struct {
	home   []int
	capt   []bool
	types  []int
	guards []impl.Guard
}

func (h *holding) put(reg, kind int) {
	for len(h.types) <= reg {
		h.types = append(h.types, impl.TNone)
	}
	h.types[reg] = kind
}

func (h *holding) vars(list []int) {
	for _, v := range list {
		h.put(h.home[v], map[bool]int{false: impl.TValue, true: impl.TBox}[h.capt[v]])
	}
}

// heldAt goes from the body to node n: each variable in scope is in its home, in a box exactly when it is captured; a loop holds what it goes by ahead of the home of its first variable.
func (o oracle) heldAt(f, n int) *holding {
	fn := o.u.Fns[f]
	h := &holding{home: impl.Homes(o.u, f), capt: impl.Captured(o.u, f)}
	for p := range fn.Params {
		h.vars([]int{p})
	}
	if fn.Rest {
		h.put(fn.Params, impl.TList)
	}
	path := o.path(f, n)
	slices.Reverse(path)
	for _, step := range path {
		h.enter(fn, fn.Nodes[step[0]], step[1])
	}
	return h
}

func (h *holding) enter(fn impl.Fn, x impl.Node, kid int) {
	switch x.Kind {
	case impl.NBlock:
		for _, n := range x.Kids[:kid] {
			if fn.Nodes[n].Kind == impl.NLet {
				h.vars(fn.Nodes[n].Refs)
			}
		}
		if slices.ContainsFunc(x.Kids, func(n int) bool { return fn.Nodes[n].Kind == impl.NDefer }) {
			h.guards = append(h.guards, impl.Guard{Keep: len(h.types)})
		}
	case impl.NFor, impl.NEach:
		for reg := h.home[x.Refs[0]] - 3; reg < h.home[x.Refs[0]]; reg++ {
			h.put(reg, impl.TValue)
		}
		if x.Kind == impl.NEach {
			h.put(h.home[x.Refs[0]]-1, impl.TNone)
		}
		h.vars(x.Refs)
	case impl.NTry:
		if kid == 0 {
			h.guards = append(h.guards, impl.Guard{Try: true, Keep: len(h.types)})
		} else {
			h.vars(x.Refs)
		}
	}
}

func (o oracle) wrongStates(c impl.Code, f int) string {
	states, p, nodes := impl.States(c, f), c.Protos[f], o.u.Fns[f].Nodes
	order := o.inOrder(f, len(nodes)-1, false)
	for i, x := range p.Ins {
		if x.Op != impl.ILine {
			continue
		}
		n := order[0]
		order = order[1:]
		if !states[i].Reached {
			continue
		}
		h := o.heldAt(f, n)
		if len(h.types) > p.Regs {
			return "too few registers"
		}
		h.types = append(h.types, make([]int, p.Regs-len(h.types))...)
		if !slices.Equal(states[i].Types, h.types) {
			return fmt.Sprintf("ahead of %d the registers hold %v, want %v", i, states[i].Types, h.types)
		}
		sameGuard := func(g, w impl.Guard) bool { return g.Try == w.Try && g.Keep == w.Keep }
		if !slices.EqualFunc(states[i].Guards, h.guards, sameGuard) {
			return fmt.Sprintf("ahead of %d the guards are %v, want %v", i, states[i].Guards, h.guards)
		}
	}
	return ""
}
