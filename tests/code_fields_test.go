package tests

import (
	"fmt"
	"slices"
	"strings"
	"testing"

	"loop.example/draft/impl"
)

// fieldWords says of each Op what its fields are, from A on.
var fieldWords = map[int]string{
	impl.ILine: "line", impl.IAt: "line0", impl.ITick: "",
	impl.IConst: "place const", impl.IMove: "place operand", impl.IBox: "place operand",
	impl.IGet: "place place", impl.IPut: "place operand", impl.IUpGet: "place up", impl.IUpPut: "up operand",
	impl.IFn: "place proto", impl.ITable: "place",
	impl.IRaw: "place operand operand", impl.IRawAll: "place operand operand",
	impl.IIndex: "place operand operand", impl.ISet: "operand operand operand",
	impl.IUnary: "place unary operand", impl.IBinary: "place binary operand operand",
	impl.IJump: "ins", impl.IIf: "operand ins", impl.IUnless: "operand ins",
	impl.IList: "place", impl.IAdd: "place operand", impl.IJoin: "place operand", impl.IFirst: "place operand",
	impl.IPick: "place place element", impl.ICopy: "place place", impl.ICall: "place operand operand",
	impl.IReturn: "operand", impl.IThrow: "operand",
	impl.ITry: "ins trykeep", impl.IEndTry: "", impl.IScope: "keep", impl.IKeep: "keep",
	impl.IDefer: "operand operand", impl.ILeave: "",
	impl.IFor: "three", impl.IForTest: "three ins", impl.IForNext: "three ins",
	impl.IEach: "two", impl.IEachNext: "two ins place", impl.IDrop: "place",
}

// sizes are how much there is of all that a field can name.
type sizes struct {
	regs, consts, ups, ins int
}

const sizeProtos = 4

var usual = sizes{regs: 7, consts: 5, ups: 3, ins: 6}

// span is what may stand in a field: from low to high, and nothing when high is below low.
type span struct{ low, high int }

func (s sizes) span(word string) span {
	switch word {
	case "line":
		return span{1, 100000}
	case "line0":
		return span{0, 100000}
	case "place":
		return span{0, s.regs - 1}
	case "two":
		return span{0, s.regs - 2}
	case "three":
		return span{0, s.regs - 3}
	case "operand":
		return span{-s.regs, s.regs - 1}
	case "const":
		return span{0, s.consts - 1}
	case "up":
		return span{0, s.ups - 1}
	case "proto":
		return span{0, sizeProtos - 1}
	case "ins":
		return span{0, s.ins - 1}
	case "unary":
		return span{19, 22}
	case "binary":
		return span{1, 18}
	case "element":
		return span{0, 250}
	case "keep":
		return span{0, s.regs}
	case "trykeep":
		return span{0, s.regs - 2}
	}
	return span{0, 0}
}

func (s sizes) spans(op int) [4]span {
	var all [4]span
	for i, word := range strings.Fields(fieldWords[op]) {
		all[i] = s.span(word)
	}
	return all
}

func withField(x impl.Ins, field, value int) impl.Ins {
	*[]*int{&x.A, &x.B, &x.C, &x.D}[field] = value
	return x
}

// low is an instruction of this Op with the least that may stand in each field, and whether there is any.
func (s sizes) low(op int) (impl.Ins, bool) {
	x, there := impl.Ins{Op: op}, true
	for field, sp := range s.spans(op) {
		x = withField(x, field, sp.low)
		there = there && sp.low <= sp.high
	}
	if op == impl.IFn {
		x.B = 2
	}
	return x, there
}

// world is a code of sizeProtos protos in which x is instruction 1 of proto 1; each proto is made once if x is right.
func (s sizes) world(x impl.Ins) impl.Code {
	first := proto(8, append(filling("b"), in(impl.IFn, 1, 1))...)
	for p := 2; p < sizeProtos; p++ {
		if x.Op != impl.IFn || x.B != p {
			first.Ins = append(first.Ins, in(impl.IFn, 1, p))
		}
	}
	first.Ins = append(first.Ins, in(impl.IThrow, 1))
	second := impl.Proto{
		Regs: s.regs, Ups: slices.Repeat([]impl.Up{local(0)}, s.ups), Consts: make([]impl.Value, s.consts),
		Ins: slices.Repeat([]impl.Ins{in(impl.ITick)}, s.ins),
	}
	second.Ins[1] = x
	second.Ins[s.ins-1] = in(impl.IJump, 0)
	return code(first, second, ending(), ending())
}

// expect asks for the fault of x, when only this field can be wrong.
func (s sizes) expect(t *testing.T, x impl.Ins, field, value int) {
	t.Helper()
	sp := s.spans(x.Op)[field]
	x = withField(x, field, value)
	what := fmt.Sprintf("%+v: %+v, field %c", s, x, "ABCD"[field])
	switch {
	case value < sp.low || value > sp.high:
		wantShape(t, what, s.world(x), faultOf(5, 1, 1))
	case x.Op == impl.IFn && field == 1 && value <= 1:
		wantShape(t, what, s.world(x), faultOf(6, 1, 1))
	default:
		rightShape(t, what, s.world(x))
	}
}

func TestAllOpsHaveWords(t *testing.T) {
	for op := 1; op <= opCount; op++ {
		if _, there := fieldWords[op]; !there {
			t.Errorf("op %d", op)
		}
	}
	if len(fieldWords) != opCount {
		t.Errorf("%d ops, want %d", len(fieldWords), opCount)
	}
}

func TestFieldsOfEachOp(t *testing.T) {
	for _, s := range []sizes{usual, {3, 1, 1, 3}, {4, 2, 2, 4}, {250, 20, 10, 12}} {
		for op := 1; op <= opCount; op++ {
			x, there := s.low(op)
			if !there {
				t.Fatalf("%+v has nothing for op %d", s, op)
			}
			rightShape(t, fmt.Sprint("op ", op), s.world(x))
			for field, sp := range s.spans(op) {
				edges := []int{sp.low - 1, sp.low, sp.low + 1, (sp.low + sp.high) / 2, sp.high - 1, sp.high, sp.high + 1, -1, 0, 1}
				for _, value := range append(edges, far...) {
					s.expect(t, x, field, value)
				}
			}
		}
	}
}

// Where there is nothing that a field could name, all of its values are wrong.
func TestFieldsWithNothingToName(t *testing.T) {
	for _, s := range []sizes{{0, 0, 0, 3}, {1, 1, 1, 3}, {2, 1, 1, 3}, {7, 0, 1, 3}, {7, 1, 0, 3}} {
		for op := 1; op <= opCount; op++ {
			x, there := s.low(op)
			for field, sp := range s.spans(op) {
				if there {
					s.expect(t, x, field, sp.low)
					s.expect(t, x, field, sp.high)
					s.expect(t, x, field, sp.high+1)
				}
				if sp.low <= sp.high {
					continue
				}
				for value := -3; value <= 3; value++ {
					wantShape(t, fmt.Sprintf("%+v: op %d, field %d, %d", s, op, field, value),
						s.world(withField(x, field, value)), faultOf(5, 1, 1))
				}
			}
		}
	}
}

func TestOpsThatThereAreNot(t *testing.T) {
	for _, op := range append([]int{-42, -1, 0, opCount + 1, opCount + 2, 100}, far...) {
		wantShape(t, fmt.Sprint("op ", op), usual.world(impl.Ins{Op: op}), faultOf(5, 1, 1))
		c := alone(in(impl.ITick), impl.Ins{Op: op})
		wantShape(t, fmt.Sprint("op ", op, " at the end"), c, faultOf(5, 0, 1))
	}
}

// Numbers far outside in several fields at once, with any Op.
func TestFarNumbersEverywhere(t *testing.T) {
	d := dice(5)
	pick := func(near int) int {
		if d.below(3) > 0 {
			return far[d.below(len(far))]
		}
		return near
	}
	for round := range 4000 {
		x := impl.Ins{Op: 1 + d.below(opCount), A: pick(0), B: pick(0), C: pick(0), D: pick(0)}
		fits := true
		for field, sp := range usual.spans(x.Op) {
			value := []int{x.A, x.B, x.C, x.D}[field]
			fits = fits && sp.low <= value && value <= sp.high
		}
		c := usual.world(x)
		if !fits {
			wantShape(t, fmt.Sprint("round ", round), c, faultOf(5, 1, 1))
		}
		p := &c.Protos[d.below(len(c.Protos))]
		p.Params, p.Regs, p.Line = pick(p.Params), pick(p.Regs), pick(p.Line)
		p.Named = []impl.Named{{Name: "n", Reg: pick(0), From: pick(0), To: pick(0)}}
		p.Ups = []impl.Up{{Local: d.below(2) == 0, Index: pick(0)}}
		p.Consts = []impl.Value{{Kind: pick(0), Num: int64(pick(0)), Ref: pick(0)}}
		asked(t, c)
		impl.States(c, pick(0))
	}
}
