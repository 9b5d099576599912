package tests

import (
	"fmt"
	"math"
	"slices"
	"strings"
	"testing"

	"loop.example/draft/impl"
)

// Each Op with a target, which stands behind it or ahead of it, with none, one or several that go ahead of both, between them and behind.
func TestTidyNumbersTargetsAnew(t *testing.T) {
	gone := func(many int) string { return strings.Repeat("- Tick\n", many) }
	all := append(slices.Clone(goers), goer{impl.ITry, "", "Try to 0"})
	for _, g := range all {
		for ahead := range 3 {
			for between := range 3 {
				for behind := range 3 {
					what := fmt.Sprint(opNames[g.op], " with ", ahead, ", ", between, " and ", behind)
					tail := gone(behind) + "- Jump on"
					tidiesTo(t, what+", forwards", "Jump on\n"+gone(ahead)+"on: "+g.text("far")+gone(between)+"far: "+ends+tail)
					tidiesTo(t, what+", backwards", "Jump on\n"+gone(ahead)+"far: "+ends+gone(between)+"on: "+g.text("far")+tail)
					tidiesTo(t, what+", with a jump that goes", "Tick\n- Jump on\n"+gone(ahead)+"on: "+g.text("far")+gone(between)+"far: Tick\n- Jump end\n"+gone(behind)+"end: "+ends)
				}
			}
		}
	}
}

// A target that is a jump which goes itself becomes the number of what comes behind it.
func TestTidyNumbersTargetsThatWent(t *testing.T) {
	for _, g := range goers {
		for _, behind := range []string{"", "- Tick\n", "- Throw 1; - Jump end\n"} {
			tidiesTo(t, opNames[g.op], g.text("w1>last")+"- last: Jump end\n"+behind+"end: "+ends+longWay("w", "last"))
			tidiesTo(t, opNames[g.op]+" from behind", "Jump on\n- last: Jump end\n"+behind+"end: "+ends+"- Tick\non: "+g.text("w1>last")+longWay("w", "last"))
		}
	}
}

func TestTidyNumbersNamesAnew(t *testing.T) {
	p := proto(8, in(impl.IConst), in(impl.IIf, 0, 6), in(impl.IJump, 5), in(impl.ITick), in(impl.ITick), in(impl.ITick), in(impl.IThrow), in(impl.ITick), in(impl.IJump, 7))
	// Instructions 0, 1, 5 and 6 stay.
	numbers := []int{0, 1, 2, 2, 2, 2, 3, 4, 4, 4}
	var want []impl.Named
	for from := range numbers {
		for to := from; to < len(numbers); to++ {
			n := impl.Named{Name: fmt.Sprint("from ", from, " to ", to), Reg: (from + to) % 8, From: from, To: to}
			p.Named = append(p.Named, n)
			n.From, n.To = numbers[from], numbers[to]
			want = append(want, n)
		}
	}
	got := tidied(t, "names", code(p)).Protos[0]
	if len(got.Ins) != 4 || !slices.Equal(got.Named, want) {
		t.Errorf("got %v\nwant %v", got.Named, want)
	}
	p.Named = slices.Repeat([]impl.Named{{Name: "one of many", Reg: 3, From: 3, To: 9}}, impl.MaxConsts)
	got = tidied(t, "as many names as can be", code(p)).Protos[0]
	if !slices.Equal(got.Named, slices.Repeat([]impl.Named{{Name: "one of many", Reg: 3, From: 2, To: 4}}, impl.MaxConsts)) {
		t.Errorf("got %v", got.Named)
	}
	p.Named = nil
	if got = tidied(t, "no names", code(p)).Protos[0]; len(got.Named) != 0 {
		t.Errorf("got %v", got.Named)
	}
}

// decked has all that a proto can have beside its instructions, at the limits.
func decked(p impl.Proto) impl.Proto {
	p.Name, p.Line, p.Params, p.Rest, p.Regs = longText(impl.MaxName), 100000, 2, true, impl.MaxRegs
	p.Consts = []impl.Value{
		{}, {Kind: impl.KBool}, {Kind: impl.KBool, Num: 1}, intConst(math.MinInt64), intConst(math.MaxInt64), intConst(0),
		{Kind: impl.KFlt}, {Kind: impl.KFlt, Flt: math.Copysign(0, -1)}, {Kind: impl.KFlt, Flt: math.Inf(-1)}, {Kind: impl.KFlt, Flt: 5e-324},
		{Kind: impl.KStr}, {Kind: impl.KStr, Str: longText(impl.MaxStr)}, {Kind: impl.KStr, Str: "\xff\x00"}, {Kind: impl.KBuiltin, Num: 14}, {},
	}
	p.Ups = []impl.Up{local(0), local(7), local(0), local(249)}
	p.Named = []impl.Named{{Name: "\xff", Reg: 249, To: len(p.Ins)}, {Name: longText(impl.MaxName), From: 1, To: 1}, {Name: "\xff", Reg: 249}}
	return p
}

// All other parts stay as they are, where a proto is tidied and where it stays as it was.
func TestTidyLeavesOtherParts(t *testing.T) {
	first := proto(impl.MaxRegs, in(impl.IConst, 3, 1))
	for _, reg := range []int{0, 7, 249} {
		first.Ins = append(first.Ins, in(impl.IBox, reg, 3))
	}
	first.Ins = append(first.Ins, in(impl.IFn, 1, 1), in(impl.IFn, 1, 2), in(impl.IFn, 1, 3), in(impl.IThrow, 3))
	first.Rest, first.Name, first.Line = true, "first", 5
	x := readTidying("Const 9 0; - Jump a; - Tick; a: Throw ~9; - Tick; - Jump 0")
	kept := readTidying("Const 9 0; Jump a; Fn 7 4; a: Throw ~9; Tick; Jump 0")
	inner := ending(local(0), outer(3), outer(3))
	c := code(first, decked(x.before), decked(kept.before), decked(proto(8, in(impl.IConst), in(impl.IThrow))), inner)
	verified(t, "decked", c)
	got := tidied(t, "decked", c)
	short := decked(x.before)
	short.Ins, short.Named = x.after.Ins, []impl.Named{{Name: "\xff", Reg: 249, To: 2}, {Name: longText(impl.MaxName), From: 1, To: 1}, {Name: "\xff", Reg: 249}}
	for p, want := range []impl.Proto{first, short, c.Protos[2], c.Protos[3], inner} {
		wantProto(t, fmt.Sprint("proto ", p), got.Protos[p], want)
	}
}

// Protos may share their lists, and have room behind them: what is tidied hangs on neither, and writes into neither.
func TestTidyOfSharedLists(t *testing.T) {
	list := readTidying("Tick; - Jump a; - Tick; a: " + ends).before.Ins
	named := []impl.Named{{Name: "a", Reg: 1, From: 2, To: 4}, {Name: "b", Reg: 2, From: 0, To: 5}, {Name: "spare", Reg: 2, From: 0, To: 5}}
	one := impl.Proto{Regs: 8, Ins: list, Named: named[:2], Consts: []impl.Value{{}, {}}[:1]}
	first := making(one, one, one).Protos[0]
	whole := append(slices.Clone(first.Ins), list...)
	first.Ins = whole[:len(first.Ins)]
	c := code(first, one, one, one)
	verified(t, "shared lists", c)
	got := tidied(t, "shared lists", c)
	want := impl.Proto{Regs: 8, Consts: one.Consts, Named: []impl.Named{{Name: "a", Reg: 1, From: 1, To: 2}, {Name: "b", Reg: 2, From: 0, To: 3}}, Ins: []impl.Ins{in(impl.ITick), in(impl.IList, 7), in(impl.IReturn, took(7))}}
	for p := 1; p <= 3; p++ {
		wantProto(t, fmt.Sprint("proto ", p), got.Protos[p], want)
	}
	if !slices.Equal(whole[len(first.Ins):], list) || named[2] != (impl.Named{Name: "spare", Reg: 2, From: 0, To: 5}) {
		t.Error("what lies behind a list was written into")
	}
	// Where nothing is taken away, the answer is new memory as well; so it is where a proto stays as it was.
	tidied(t, "nothing goes", alone(in(impl.IList), in(impl.IReturn)))
	same := proto(8, list...)
	same.Ins = append(slices.Clone(list), in(impl.IFn, 0, 1), in(impl.IThrow))
	same.Named = named
	stays := tidied(t, "it stays as it was", code(same, ending()))
	wantProto(t, "it stays as it was", stays.Protos[0], same)
}

// An empty list and none at all are the same.
func TestTidyOfEmptyLists(t *testing.T) {
	p := impl.Proto{Regs: 1, Ins: []impl.Ins{in(impl.ITick), in(impl.IJump, 2), in(impl.IList), in(impl.IReturn)}}
	q := p
	q.Ups, q.Consts, q.Named = []impl.Up{}, []impl.Value{}, []impl.Named{}
	x, y := tidied(t, "no lists", code(p)), tidied(t, "empty lists", code(q))
	wantProto(t, "empty lists", y.Protos[0], x.Protos[0])
	if len(x.Protos[0].Ins) != 3 {
		t.Errorf("%d instructions", len(x.Protos[0].Ins))
	}
}
