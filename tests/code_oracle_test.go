package tests

import (
	"fmt"
	"math"
	"slices"
	"strings"
	"testing"

	"loop.example/draft/impl"
)

// opTable is the document's table of instructions, a word for each field: "=x" is a place into which x is put, "@x" a place that holds x, "x" an operand that is x (v, b, l, or . for nothing).
var opTable = map[int]string{
	impl.ILine: "line", impl.IAt: "line0", impl.ITick: "",
	impl.IConst: "=v const", impl.IMove: "=v v", impl.IBox: "=b v", impl.IGet: "=v @b", impl.IPut: "@b v",
	impl.IUpGet: "=v up", impl.IUpPut: "up v", impl.IFn: "=v proto", impl.ITable: "=v",
	impl.IRaw: "@v v v", impl.IRawAll: "@v v l", impl.IIndex: "=v v v", impl.ISet: "v v v",
	impl.IUnary: "=v unary v", impl.IBinary: "=v binary v v",
	impl.IJump: "ins", impl.IIf: "v ins", impl.IUnless: "v ins",
	impl.IList: "=l", impl.IAdd: "@l v", impl.IJoin: "@l l", impl.IFirst: "=v l", impl.IPick: "=v @l element",
	impl.ICopy: "=l @l", impl.ICall: "=l v l", impl.IReturn: "l", impl.IThrow: "v",
	impl.ITry: "ins trykeep", impl.IEndTry: "", impl.IScope: "keep", impl.IKeep: "keep", impl.IDefer: "v l", impl.ILeave: "",
	impl.IFor: "@vvv", impl.IForTest: "@vvv ins", impl.IForNext: "@vvv ins",
	impl.IEach: "@v.", impl.IEachNext: "@vv ins =l", impl.IDrop: "=.",
}

// part is a field's word and its value.
type part struct {
	word string
	x    int
}

func partsOf(x impl.Ins) []part {
	words := strings.Fields(opTable[x.Op])
	var parts []part
	for i, value := range []int{x.A, x.B, x.C, x.D} {
		word := "unused"
		if i < len(words) {
			word = words[i]
		}
		parts = append(parts, part{word, value})
	}
	return parts
}

func (p part) isOperand() bool { return p.word == "v" || p.word == "l" }

// codeOracle answers as the document does, line by line, with no thought for time.
type codeOracle struct{ code impl.Code }

func between(x, low, high int) bool { return x >= low && x <= high }

// shape gives all faults of the first of the codes that has any.
func (o codeOracle) shape() impl.CodeFault {
	for _, collect := range []func() []impl.CodeFault{o.counts, o.heads, o.consts, o.named, o.instructions, o.fns, o.unmade} {
		if all := collect(); len(all) > 0 {
			return firstCodeFault(all)
		}
	}
	return impl.CodeFault{}
}

func (o codeOracle) counts() (all []impl.CodeFault) {
	many := 0
	for _, p := range o.code.Protos {
		many += len(p.Ins)
	}
	if len(o.code.Protos) == 0 || len(o.code.Protos) > 200 || many > 6000 {
		all = append(all, faultOf(1, 0, 0))
	}
	return all
}

func (o codeOracle) heads() (all []impl.CodeFault) {
	for i, p := range o.code.Protos {
		wrong := len(p.Name) > 40 || !between(p.Line, 0, 100000) || !between(p.Regs, 0, 250) || len(p.Ups) > 250 || len(p.Consts) > 500
		wrong = wrong || !p.Rest && !between(p.Params, 0, p.Regs) || p.Rest && !between(p.Params, 0, p.Regs-1)
		wrong = wrong || i == 0 && (p.Params != 0 || len(p.Ups) > 0)
		if wrong {
			all = append(all, faultOf(2, i, 0))
		}
	}
	return all
}

func (o codeOracle) consts() (all []impl.CodeFault) {
	for i, p := range o.code.Protos {
		for j, v := range p.Consts {
			wrong := v.Ref != 0
			wrong = wrong || v.Kind != impl.KStr && v.Str != "" || len(v.Str) > 4000
			wrong = wrong || v.Kind != impl.KFlt && math.Float64bits(v.Flt) != 0 || v.Flt != v.Flt
			wrong = wrong || slices.Contains([]int{impl.KNil, impl.KFlt, impl.KStr}, v.Kind) && v.Num != 0
			wrong = wrong || v.Kind == impl.KBool && v.Num != 0 && v.Num != 1
			wrong = wrong || v.Kind == impl.KBuiltin && (v.Num < 0 || v.Num > 14)
			wrong = wrong || !slices.Contains([]int{0, 1, 2, 3, 4, 8}, v.Kind)
			if wrong {
				all = append(all, faultOf(3, i, j))
			}
		}
	}
	return all
}

func (o codeOracle) named() (all []impl.CodeFault) {
	for i, p := range o.code.Protos {
		for j, n := range p.Named {
			order := 0 <= n.From && n.From <= n.To && n.To <= len(p.Ins)
			if n.Name == "" || len(n.Name) > 40 || n.Reg < 0 || n.Reg >= p.Regs || !order || j == 500 {
				all = append(all, faultOf(4, i, j))
			}
		}
	}
	return all
}

func (o codeOracle) instructions() (all []impl.CodeFault) {
	for i, p := range o.code.Protos {
		if len(p.Ins) == 0 {
			all = append(all, faultOf(5, i, 0))
		}
		for j, x := range p.Ins {
			wrong := !between(x.Op, 1, 42)
			wrong = wrong || j+1 == len(p.Ins) && !slices.Contains([]int{impl.IJump, impl.IReturn, impl.IThrow}, x.Op)
			for _, part := range partsOf(x) {
				wrong = wrong || !o.there(p, part)
			}
			if wrong {
				all = append(all, faultOf(5, i, j))
			}
		}
	}
	return all
}

func (o codeOracle) there(p impl.Proto, f part) bool {
	switch f.word {
	case "unused":
		return f.x == 0
	case "line":
		return between(f.x, 1, 100000)
	case "line0":
		return between(f.x, 0, 100000)
	case "const":
		return between(f.x, 0, len(p.Consts)-1)
	case "up":
		return between(f.x, 0, len(p.Ups)-1)
	case "proto":
		return between(f.x, 0, len(o.code.Protos)-1)
	case "ins":
		return between(f.x, 0, len(p.Ins)-1)
	case "unary":
		return between(f.x, 19, 22)
	case "binary":
		return between(f.x, 1, 18)
	case "element":
		return between(f.x, 0, 250)
	case "keep":
		return between(f.x, 0, p.Regs)
	case "trykeep":
		return between(f.x, 0, p.Regs-2)
	}
	if f.isOperand() {
		return between(f.x, 0, p.Regs-1) || f.x < 0 && between(-1-f.x, 0, p.Regs-1)
	}
	return f.x >= 0 && f.x <= p.Regs-(len(f.word)-1)
}

// maker is an IFn, and the proto that it makes.
type maker struct{ proto, at, made int }

func (o codeOracle) makers() (all []maker) {
	for i, p := range o.code.Protos {
		for j, x := range p.Ins {
			if x.Op == impl.IFn {
				all = append(all, maker{i, j, x.B})
			}
		}
	}
	return all
}

func (o codeOracle) fns() (all []impl.CodeFault) {
	makers := o.makers()
	for i, m := range makers {
		wrong := m.made <= m.proto
		for _, ahead := range makers[:i] {
			wrong = wrong || ahead.made == m.made
		}
		p := o.code.Protos[m.proto]
		for _, up := range o.code.Protos[m.made].Ups {
			wrong = wrong || up.Local && !between(up.Index, 0, p.Regs-1) || !up.Local && !between(up.Index, 0, len(p.Ups)-1)
		}
		if wrong {
			all = append(all, faultOf(6, m.proto, m.at))
		}
	}
	return all
}

func (o codeOracle) unmade() (all []impl.CodeFault) {
	for i := 1; i < len(o.code.Protos); i++ {
		if !slices.ContainsFunc(o.makers(), func(m maker) bool { return m.made == i }) {
			all = append(all, faultOf(7, i, 0))
		}
	}
	return all
}

// condition is a state with letters for types; guards as they are.
type condition struct {
	types  string
	guards []impl.Guard
}

func (c condition) String() string { return fmt.Sprint(c.types, c.guards) }

func with(types string, reg int, letter byte) string {
	return types[:reg] + string(letter) + types[reg+1:]
}

// verify gives the first fault that the verifier finds in a proto, and the states.
func (o codeOracle) verify(at int) (impl.CodeFault, map[int]condition) {
	p := o.code.Protos[at]
	begin := strings.Repeat("v", p.Params)
	if p.Rest {
		begin += "l"
	}
	begin += strings.Repeat(".", p.Regs-len(begin))
	reached := map[int]condition{0: {types: begin}}
	set := map[int]bool{0: true}
	for len(set) > 0 {
		i := math.MaxInt
		for j := range set {
			i = min(i, j)
		}
		delete(set, i)
		fault, ways := o.step(p, i, reached[i])
		if fault > 0 {
			return faultOf(fault, at, i), nil
		}
		for _, w := range ways {
			if before, there := reached[w.to]; !there {
				reached[w.to] = w.with
				set[w.to] = true
			} else if before.String() != w.with.String() {
				return faultOf(13, at, w.to), nil
			}
		}
	}
	for i := range p.Ins {
		if _, there := reached[i]; there && o.returns(p, i) {
			return faultOf(14, at, i), nil
		}
	}
	return impl.CodeFault{}, reached
}

// way is a follower and the state that it gets.
type way struct {
	to   int
	with condition
}

func (o codeOracle) step(p impl.Proto, i int, ahead condition) (int, []way) {
	x := p.Ins[i]
	behind, taken, right := o.registers(x, ahead.types)
	if !right {
		return 10, nil
	}
	if !o.guardsRight(x, ahead.guards) {
		return 11, nil
	}
	for n, g := range ahead.guards {
		if !g.Try || x.Op == impl.IEndTry && n == len(ahead.guards)-1 {
			continue
		}
		for reg := range g.Keep {
			if taken[reg] || behind[reg] != ahead.types[reg] {
				return 12, nil
			}
		}
	}
	return 0, o.ways(x, i, ahead, behind)
}

func (o codeOracle) registers(x impl.Ins, types string) (behind string, taken map[int]bool, right bool) {
	behind, taken = types, map[int]bool{}
	places := map[int]bool{}
	for _, f := range partsOf(x) {
		if f.isOperand() {
			reg := max(f.x, -1-f.x)
			if behind[reg] != f.word[0] || f.x < 0 && places[reg] {
				return "", nil, false
			}
			if f.x < 0 {
				taken[reg] = true
				behind = with(behind, reg, '.')
			}
		}
		if f.word[0] == '@' {
			for n, letter := range f.word[1:] {
				if behind[f.x+n] != byte(letter) {
					return "", nil, false
				}
				places[f.x+n] = true
			}
		}
	}
	if x.Op == impl.IFn {
		for _, up := range o.code.Protos[x.B].Ups {
			if up.Local && types[up.Index] != 'b' {
				return "", nil, false
			}
		}
	}
	for _, f := range partsOf(x) {
		if f.word[0] == '=' {
			behind = with(behind, f.x, f.word[1])
		}
	}
	if x.Op == impl.IEach {
		behind = with(behind, x.A+1, 'v')
		taken[x.A] = true
	}
	return behind, taken, true
}

func (o codeOracle) guardsRight(x impl.Ins, guards []impl.Guard) bool {
	inner := "none"
	if len(guards) > 0 && guards[len(guards)-1].Try {
		inner = "catches"
	} else if len(guards) > 0 {
		inner = "defers"
	}
	keep := math.MaxInt
	switch x.Op {
	case impl.IEndTry:
		return inner == "catches"
	case impl.IDefer, impl.ILeave:
		return inner == "defers"
	case impl.IKeep:
		keep = x.A
		if inner != "defers" {
			return false
		}
	case impl.ITry:
		keep = x.B
	case impl.IScope:
		keep = x.A
	}
	if (x.Op == impl.ITry || x.Op == impl.IScope) && len(guards) >= 50 {
		return false
	}
	for _, g := range guards {
		if g.Try && keep < g.Keep {
			return false
		}
	}
	return true
}

func (o codeOracle) ways(x impl.Ins, i int, ahead condition, behind string) []way {
	guards := slices.Clone(ahead.guards)
	switch x.Op {
	case impl.ITry:
		guards = append(guards, impl.Guard{Try: true, Keep: x.B, Handler: x.A})
	case impl.IScope:
		guards = append(guards, impl.Guard{Keep: x.A})
	case impl.IKeep:
		guards[len(guards)-1] = impl.Guard{Keep: x.A}
	case impl.IEndTry, impl.ILeave:
		guards = guards[:len(guards)-1]
	}
	var ways []way
	for _, to := range followersOf(x, i) {
		ways = append(ways, way{to, condition{behind, guards}})
	}
	last := len(ways) - 1
	if x.Op == impl.IEachNext {
		ways[last].with.types = ahead.types
	}
	if x.Op == impl.ITry {
		ways[last].with = condition{ahead.types[:x.B] + "vv" + strings.Repeat(".", len(behind)-x.B-2), ahead.guards}
	}
	return ways
}

func followersOf(x impl.Ins, i int) []int {
	var all []int
	if x.Op != impl.IJump && x.Op != impl.IReturn && x.Op != impl.IThrow {
		all = append(all, i+1)
	}
	for _, f := range partsOf(x) {
		if f.word == "ins" {
			all = append(all, f.x)
		}
	}
	return all
}

// returns says whether silent steps lead from an instruction back to it.
func (o codeOracle) returns(p impl.Proto, start int) bool {
	seen := map[int]bool{}
	work := []int{start}
	for len(work) > 0 {
		i := work[0]
		work = work[1:]
		x := p.Ins[i]
		steps := followersOf(x, i)
		if loud(x) {
			steps = nil
		} else if x.Op == impl.IEachNext {
			steps = []int{x.B}
		}
		for _, to := range steps {
			if to == start {
				return true
			}
			if !seen[to] {
				seen[to] = true
				work = append(work, to)
			}
		}
	}
	return false
}

func (o codeOracle) fault() (shape, full impl.CodeFault) {
	if shape = o.shape(); shape != (impl.CodeFault{}) {
		return shape, shape
	}
	for p := range o.code.Protos {
		if full, _ = o.verify(p); full != (impl.CodeFault{}) {
			break
		}
	}
	return shape, full
}

// against holds what the program says of a code against the oracle, and answers the fault.
func against(t *testing.T, what string, c impl.Code) impl.CodeFault {
	t.Helper()
	o := codeOracle{c}
	wantedShape, wanted := o.fault()
	shape, full, states := asked(t, c)
	if shape != wantedShape || full != wanted {
		t.Errorf("%s: got %v and %v, want %v and %v: %s", what, shape, full, wantedShape, wanted, showCode(c))
		return full
	}
	for p, list := range states {
		if full != (impl.CodeFault{}) {
			if len(list) > 0 {
				t.Errorf("%s: states with a fault", what)
			}
			continue
		}
		_, reached := o.verify(p)
		for i := range c.Protos[p].Ins {
			want := "-"
			if s, there := reached[i]; there {
				want = brief(impl.State{Reached: true, Guards: s.guards})
				want = s.types + want
			}
			if i >= len(list) || brief(list[i]) != want {
				t.Errorf("%s: proto %d, state %d: got %v, want %q", what, p, i, list, want)
			}
		}
	}
	return full
}
