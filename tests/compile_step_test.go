package tests

import (
	"fmt"
	"slices"
	"testing"

	"loop.example/draft/impl"
)

// slot is what a register holds.
type slot struct {
	kind int
	what thing
	box  *thing
	list []thing
}

// toyGuard is a guard that is on, and the calls that it keeps.
type toyGuard struct {
	impl.Guard
	calls []toyCall
}

// stepper runs a proto of a code, instruction by instruction.
type stepper struct {
	w      *toyWorld
	c      impl.Code
	at     int
	p      impl.Proto
	ups    []*thing
	regs   []slot
	guards []toyGuard
	line   int
	// pc is the instruction at hand, next the one behind it.
	pc   int
	next int
	done bool
	out  []thing
}

// stepped runs a code.
func stepped(c impl.Code, seed uint64, events int, ops map[int]int) []string {
	w := newWorld(seed, events)
	w.run = func(fn *toyFn, args []thing) []thing {
		k := &stepper{w: w, c: c, at: fn.fn, p: c.Protos[fn.fn], ups: fn.ups}
		k.regs = make([]slot, k.p.Regs)
		for reg := range k.p.Params {
			k.regs[reg] = slot{kind: impl.TValue, what: elementOf(args, reg)}
		}
		if k.p.Rest {
			k.regs[k.p.Params] = slot{kind: impl.TList, list: slices.Clone(args[min(k.p.Params, len(args)):])}
		}
		return w.entered(k.seen, func() []thing {
			for !k.done {
				ops[k.p.Ins[k.pc].Op]++
				if err := thrownBy(k.step); err != nil {
					k.unwind(*err)
				}
			}
			return k.out
		})
	}
	return w.ran()
}

// seen is by Named alone: a register that holds nothing shows nothing.
func (k *stepper) seen() string {
	var vars []string
	for _, n := range k.p.Named {
		if n.From > k.pc || k.pc >= n.To {
			continue
		}
		switch s := k.regs[n.Reg]; s.kind {
		case impl.TValue:
			vars = append(vars, n.Name+"="+s.what.text)
		case impl.TBox:
			vars = append(vars, n.Name+"="+s.box.text)
		}
	}
	return seenText(k.at, k.line, vars)
}

func (k *stepper) held(reg, kind int) slot {
	if s := k.regs[reg]; s.kind == kind {
		return s
	}
	panic(fmt.Sprintf("proto %d, instruction %d: register %d holds %d, not %d", k.at, k.pc, reg, k.regs[reg].kind, kind))
}

func (k *stepper) operand(x, kind int) slot {
	if x >= 0 {
		return k.held(x, kind)
	}
	s := k.held(took(x), kind)
	k.regs[took(x)] = slot{}
	return s
}

func (k *stepper) value(x int) thing  { return k.operand(x, impl.TValue).what }
func (k *stepper) list(x int) []thing { return k.operand(x, impl.TList).list }

func (k *stepper) put(reg int, x thing) { k.regs[reg] = slot{kind: impl.TValue, what: x} }

func (k *stepper) putList(reg int, list []thing) {
	k.regs[reg] = slot{kind: impl.TList, list: slices.Clone(list)}
}

// putLonger throws when a list becomes too long, as one that is joined to itself in a loop would.
func (k *stepper) putLonger(reg int, more []thing) {
	list := append(k.held(reg, impl.TList).list, more...)
	if len(list) > 250 {
		panic(thrown{thing{text: "too long"}})
	}
	k.putList(reg, list)
}

func (k *stepper) step() {
	k.next = k.pc + 1
	x := k.p.Ins[k.pc]
	switch {
	case x.Op <= impl.ITick:
		k.tell(x)
	case x.Op <= impl.ITable, x.Op == impl.IDrop:
		k.move(x)
	case x.Op <= impl.IBinary:
		k.operate(x)
	case x.Op <= impl.IUnless:
		k.jump(x)
	case x.Op <= impl.ICall:
		k.lists(x)
	case x.Op <= impl.ILeave:
		k.guard(x)
	default:
		k.loop(x)
	}
	k.pc = k.next
}

func (k *stepper) tell(x impl.Ins) {
	switch x.Op {
	case impl.ILine:
		k.line = x.A
		k.w.show("line")
	case impl.IAt:
		k.line = x.A
	case impl.ITick:
		k.w.show("tick")
	}
}

func (k *stepper) move(x impl.Ins) {
	switch x.Op {
	case impl.IConst:
		k.put(x.A, thing{text: constText(k.p.Consts[x.B])})
	case impl.IMove:
		k.put(x.A, k.value(x.B))
	case impl.IBox:
		what := k.value(x.B)
		k.regs[x.A] = slot{kind: impl.TBox, box: &what}
	case impl.IGet:
		k.put(x.A, *k.held(x.B, impl.TBox).box)
	case impl.IPut:
		*k.held(x.A, impl.TBox).box = k.value(x.B)
	case impl.IUpGet:
		k.put(x.A, *k.ups[x.B])
	case impl.IUpPut:
		*k.ups[x.A] = k.value(x.B)
	case impl.IFn:
		var ups []*thing
		for _, up := range k.c.Protos[x.B].Ups {
			if up.Local {
				ups = append(ups, k.held(up.Index, impl.TBox).box)
			} else {
				ups = append(ups, k.ups[up.Index])
			}
		}
		k.put(x.A, k.w.newFn(x.B, ups))
	case impl.ITable:
		k.put(x.A, k.w.newTable())
	case impl.IDrop:
		k.regs[x.A] = slot{}
	}
}

func (k *stepper) operate(x impl.Ins) {
	switch x.Op {
	case impl.IRaw:
		table := k.held(x.A, impl.TValue).what
		key, value := k.value(x.B), k.value(x.C)
		k.w.may("into ", table.text, key.text, value.text)
	case impl.IRawAll:
		table := k.held(x.A, impl.TValue).what
		key, list := k.value(x.B), k.list(x.C)
		k.w.may("all into ", table.text, key.text, textOf(list))
	case impl.IIndex:
		a, b := k.value(x.B), k.value(x.C)
		k.put(x.A, k.w.operation("index ", a.text, b.text))
	case impl.ISet:
		a, b, c := k.value(x.A), k.value(x.B), k.value(x.C)
		k.w.may("set ", a.text, b.text, c.text)
	case impl.IUnary:
		k.put(x.A, k.w.operation("unary ", x.B, k.value(x.C).text))
	case impl.IBinary:
		a, b := k.value(x.C), k.value(x.D)
		k.put(x.A, k.w.operation("binary ", x.B, a.text, b.text))
	}
}

func (k *stepper) jump(x impl.Ins) {
	switch {
	case x.Op == impl.IJump:
		k.next = x.A
	case isTrue(k.value(x.A)) == (x.Op == impl.IIf):
		k.next = x.B
	}
}

func (k *stepper) lists(x impl.Ins) {
	switch x.Op {
	case impl.IList:
		k.putList(x.A, nil)
	case impl.IAdd:
		k.putLonger(x.A, []thing{k.value(x.B)})
	case impl.IJoin:
		k.putLonger(x.A, k.list(x.B))
	case impl.IFirst:
		k.put(x.A, firstOf(k.list(x.B)))
	case impl.IPick:
		k.put(x.A, elementOf(k.held(x.B, impl.TList).list, x.C))
	case impl.ICopy:
		k.putList(x.A, k.held(x.B, impl.TList).list)
	case impl.ICall:
		f, args := k.value(x.B), k.list(x.C)
		k.putList(x.A, k.w.call(f, args))
	}
}

func (k *stepper) guard(x impl.Ins) {
	last := len(k.guards) - 1
	switch x.Op {
	case impl.IReturn:
		k.giveBack(k.list(x.A))
	case impl.IThrow:
		panic(thrown{k.value(x.A)})
	case impl.ITry:
		k.guards = append(k.guards, toyGuard{Guard: impl.Guard{Try: true, Keep: x.B, Handler: x.A}})
	case impl.IEndTry:
		k.guards = k.guards[:last]
	case impl.IScope:
		k.guards = append(k.guards, toyGuard{Guard: impl.Guard{Keep: x.A}})
	case impl.IKeep:
		k.guards[last].Keep = x.A
	case impl.IDefer:
		f, args := k.value(x.A), k.list(x.B)
		k.guards[last].calls = append(k.guards[last].calls, toyCall{k.line, f, args})
	case impl.ILeave:
		calls := k.guards[last].calls
		k.guards = k.guards[:last]
		if err := k.w.runKept(calls, &k.line, nil); err != nil {
			panic(*err)
		}
	}
}

func (k *stepper) loop(x impl.Ins) {
	at := func(i int) thing { return k.held(x.A+i, impl.TValue).what }
	switch x.Op {
	case impl.IFor:
		for i, n := range k.w.counting(at(0), at(1), at(2)) {
			k.put(x.A+i, n)
		}
	case impl.IForTest:
		if at(0).num > at(1).num {
			k.next = x.B
		}
	case impl.IForNext:
		k.put(x.A, counted(at(0), at(2)))
		k.next = x.B
	case impl.IEach:
		k.held(x.A+1, impl.TNone)
		k.put(x.A+1, k.w.eachBegin(at(0)))
	case impl.IEachNext:
		place := at(1)
		list, more := k.w.eachTurn(at(0), place)
		if !more {
			k.next = x.B
			return
		}
		place.num++
		k.put(x.A+1, place)
		k.putList(x.C, list)
	}
}

// clear lets the registers from keep on hold nothing.
func (k *stepper) clear(keep int) { clear(k.regs[keep:]) }

// giveBack leaves all guards from the inside and ends the call, unless a kept call throws.
func (k *stepper) giveBack(list []thing) {
	for len(k.guards) > 0 {
		g := k.guards[len(k.guards)-1]
		k.guards = k.guards[:len(k.guards)-1]
		if g.Try {
			continue
		}
		k.clear(g.Keep)
		if err := k.w.runKept(g.calls, &k.line, nil); err != nil {
			panic(*err)
		}
	}
	k.out, k.done = list, true
}

// unwind goes outwards through the guards up to one that catches; without one the call is left.
func (k *stepper) unwind(err thrown) {
	for len(k.guards) > 0 {
		g := k.guards[len(k.guards)-1]
		k.guards = k.guards[:len(k.guards)-1]
		k.clear(g.Keep)
		if g.Try {
			k.put(g.Keep, err.what)
			k.put(g.Keep+1, k.w.trace(err))
			k.pc = g.Handler
			return
		}
		err = *k.w.runKept(g.calls, &k.line, &err)
	}
	panic(err)
}

// Stepping the code of a unit shows what its tree means: the same lines, ticks, calls and operations in the same order, with the same lines at hand and the same variables to be seen in all open calls.
func TestCompileShowsWhatTheTreeMeans(t *testing.T) {
	t.Parallel()
	g := &grower{d: 23}
	ops, events := map[int]int{}, 0
	for round := range 4000 {
		u := g.grown()
		c := impl.Compile(u)
		if c.Code != 0 {
			t.Fatalf("round %d: Code %d", round, c.Code)
		}
		for seed := range uint64(4) {
			want := walked(u, seed, 400)
			got := stepped(c.Made, seed, 400, ops)
			events += len(want)
			for i := range max(len(got), len(want)) {
				if i >= len(got) || i >= len(want) || got[i] != want[i] {
					t.Fatalf("round %d, seed %d: event %d differs:\ngot  %s\nwant %s\nof %s\n%s", round, seed, i, got[i:min(i+2, len(got))], want[i:min(i+2, len(want))], show(u), written(c.Made.Protos[0].Ins))
				}
			}
		}
	}
	t.Log("events: ", events, ", instructions: ", ops)
	for op := 1; op <= opCount; op++ {
		if ops[op] < 100 {
			t.Errorf("instruction %s was stepped only %d times", opNames[op], ops[op])
		}
	}
}
