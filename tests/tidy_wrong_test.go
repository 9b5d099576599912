package tests

import (
	"fmt"
	"math"
	"slices"
	"testing"
	"time"

	"loop.example/draft/impl"
)

// wrongShapes are codes by the code of the fault in their shape.
func wrongShapes() map[int][]impl.Code {
	with := func(change func(p *impl.Proto)) impl.Code {
		c := making(ending(), ending())
		change(&c.Protos[2])
		return c
	}
	first := func(change func(p *impl.Proto)) impl.Code {
		c := making(ending())
		change(&c.Protos[0])
		return c
	}
	return map[int][]impl.Code{
		1: {{}, {Protos: []impl.Proto{}}, making(slices.Repeat([]impl.Proto{ending()}, impl.MaxProtos)...), alone(append(slices.Repeat([]impl.Ins{in(impl.ITick)}, impl.MaxIns), in(impl.IJump))...)},
		2: {
			with(func(p *impl.Proto) { p.Name = longText(impl.MaxName + 1) }), with(func(p *impl.Proto) { p.Line = -1 }), with(func(p *impl.Proto) { p.Line = impl.MaxLine + 1 }),
			with(func(p *impl.Proto) { p.Regs = -1 }), with(func(p *impl.Proto) { p.Regs = impl.MaxRegs + 1 }), with(func(p *impl.Proto) { p.Params = 2 }),
			with(func(p *impl.Proto) { p.Params, p.Rest = 1, true }), with(func(p *impl.Proto) { p.Ups = make([]impl.Up, impl.MaxRegs+1) }),
			with(func(p *impl.Proto) { p.Consts = make([]impl.Value, impl.MaxConsts+1) }), first(func(p *impl.Proto) { p.Params = 1 }), first(func(p *impl.Proto) { p.Ups = []impl.Up{{}} }),
		},
		3: {
			with(func(p *impl.Proto) { p.Consts = []impl.Value{{Kind: impl.KTable}} }), with(func(p *impl.Proto) { p.Consts = []impl.Value{{}, {Kind: impl.KFlt, Flt: math.NaN()}} }),
			with(func(p *impl.Proto) { p.Consts = []impl.Value{{Flt: math.Copysign(0, -1)}} }), with(func(p *impl.Proto) { p.Consts = []impl.Value{{Kind: impl.KBool, Num: 2}} }),
		},
		4: {
			with(func(p *impl.Proto) { p.Named = []impl.Named{{}} }), with(func(p *impl.Proto) { p.Named = []impl.Named{{Name: "a", Reg: 1}} }),
			with(func(p *impl.Proto) { p.Named = []impl.Named{{Name: "a", From: 1}} }), with(func(p *impl.Proto) { p.Named = []impl.Named{{Name: "a", To: 3}} }),
			with(func(p *impl.Proto) { p.Named = []impl.Named{{Name: "a", From: -1}} }),
			with(func(p *impl.Proto) { p.Named = slices.Repeat([]impl.Named{{Name: "a"}}, impl.MaxConsts+1) }),
		},
		5: {
			with(func(p *impl.Proto) { p.Ins = nil }), with(func(p *impl.Proto) { p.Ins = append(p.Ins, in(impl.ITick)) }), with(func(p *impl.Proto) { p.Ins[0].Op = 0 }),
			with(func(p *impl.Proto) { p.Ins[0].Op = opCount + 1 }), with(func(p *impl.Proto) { p.Ins[0].D = 1 }), with(func(p *impl.Proto) { p.Ins = append(p.Ins, in(impl.IJump, 3)) }),
			with(func(p *impl.Proto) { p.Ins = append(p.Ins, in(impl.IJump, -1)) }), with(func(p *impl.Proto) { p.Ins = append(p.Ins, in(impl.IConst), in(impl.IJump)) }),
		},
		6: {
			code(proto(8, in(impl.IFn), in(impl.IThrow))), code(proto(8, in(impl.IFn, 0, 1), in(impl.IFn, 0, 1), in(impl.IThrow)), ending()),
			code(proto(8, in(impl.IFn, 0, 1), in(impl.IThrow), in(impl.IFn, 0, 1), in(impl.IThrow)), ending()), making(ending(local(8))), making(ending(outer(0))),
		},
		7: {code(ending(), ending()), code(proto(8, in(impl.IFn, 0, 2), in(impl.IThrow)), ending(), ending())},
	}
}

// wrongWays are codes by the code of the fault that the verifier finds, in one proto or the last of several.
func wrongWays() map[int][]impl.Code {
	lists := map[int][]string{
		10: {"Throw 0; " + ends, "List 0; Throw 0", "Const 0 0; Return 0", "Move 0 0; Throw 0", "Const 0 0; Each 0; Each 0; " + ends, "Const 0 0; Jump a; a: Throw 1"},
		11: {"EndTry; " + ends, "Leave; " + ends, "Scope 0; EndTry; " + ends, "Try a 0; Leave; a: Throw 0", "Keep 0; " + ends, "Try a 2; Try a 1; a: Throw 0"},
		12: {"Const 0 0; Try a 1; Throw ~0; a: Throw 0", "Const 0 0; Try a 1; List 0; EndTry; " + ends + "a: Throw 0", "Const 0 0; Try a 1; Each 0; EndTry; " + ends + "a: Throw 0"},
		13: {"Const 0 0; If 0 a; Const 1 0; a: Throw 0", "Const 0 0; If 0 hop; Const 1 0; a: Throw 0; hop: Jump a", "Tick; Const 0 0; Jump 0", "Try a 0; Tick; a: Throw 0"},
		14: {"Jump 0", "Tick; a: Jump b; b: Jump a", "Const 0 0; a: If 0 a; Throw 0", "Const 0 0; Const 1 0; Const 2 0; a: ForNext 0 a; Throw 0", "Const 0 0; Jump b; a: At 4; b: Unless 0 a; Throw 0"},
	}
	all := map[int][]impl.Code{}
	for fault, listings := range lists {
		for _, listing := range listings {
			p := proto(8, (&assembler{}).read(listing)...)
			all[fault] = append(all[fault], code(p), making(ending(), p))
		}
	}
	return all
}

func TestTidyOfWrongCodes(t *testing.T) {
	codes := wrongShapes()
	for fault, list := range wrongWays() {
		codes[fault] = append(codes[fault], list...)
	}
	for _, fault := range []int{1, 2, 3, 4, 5, 6, 7, 10, 11, 12, 13, 14} {
		for i, c := range codes[fault] {
			what := fmt.Sprint("fault ", fault, ", code ", i)
			if got := impl.CheckCode(c); got.Code != fault {
				t.Errorf("%s: the fault is %v", what, got)
			}
			if got := tidied(t, what, c); len(got.Protos) != 0 {
				t.Errorf("%s: %d protos", what, len(got.Protos))
			}
		}
		if len(codes[fault]) < 2 {
			t.Errorf("%d codes with the fault %d", len(codes[fault]), fault)
		}
	}
}

// jumpsInARow are so many jumps, each of which leads this step further, or back when it is below 0, and those that would lead past all others to the two instructions behind them, which end the call.
func jumpsInARow(many, step int) []impl.Ins {
	list := slices.Repeat([]impl.Ins{in(impl.IJump)}, many)
	for i := range list {
		list[i].A = i + step
		if to := i + step; to < 1 || to >= many {
			list[i].A = many
		}
	}
	if step < 0 {
		list[0].A = many - 1
	}
	return append(list, in(impl.IList), in(impl.IReturn))
}

func greatestCodes() map[string]impl.Code {
	most := impl.MaxIns
	dressedUp := func(p impl.Proto) impl.Proto {
		p.Regs = impl.MaxRegs
		for i := range impl.MaxConsts {
			p.Consts = append(p.Consts, intConst(int64(i)))
			p.Named = append(p.Named, impl.Named{Name: longText(impl.MaxName), Reg: i % 250, From: i % len(p.Ins), To: len(p.Ins)})
		}
		p.Consts = p.Consts[:impl.MaxConsts]
		return p
	}
	branches := []impl.Ins{in(impl.IConst)}
	for i := 1; i < most-1; i++ {
		branches = append(branches, in([]int{impl.IIf, impl.IUnless}[i%2], 0, i+1+(i*7919)%(most-i-1)))
	}
	guards := []impl.Ins{in(impl.IConst), in(impl.IConst, 1)}
	for len(guards) < most-4 {
		guards = append(guards, in(impl.ITry, most-2), in(impl.IEndTry))
	}
	guards = append(guards, in(impl.IThrow), in(impl.ITick), in(impl.IJump, most-1), in(impl.IThrow))
	scopes := slices.Repeat([]impl.Ins{in(impl.IScope)}, impl.MaxGuards)
	for len(scopes) < most-2 {
		scopes = append(scopes, in(impl.ITick), in(impl.IJump, len(scopes)+2))
	}
	scopes = append(scopes, in(impl.IList), in(impl.IReturn))
	var holes []impl.Ins
	for len(holes) < most {
		holes = append(holes, in(impl.ITick), in(impl.IJump, len(holes)+3), in(impl.IThrow))
	}
	holes[most-2] = in(impl.IJump, most-3)
	protos := slices.Repeat([]impl.Proto{dressedUp(proto(250, jumpsInARow(most/impl.MaxProtos-2, 1)...))}, impl.MaxProtos)
	for p := range impl.MaxProtos - 1 {
		protos[p].Ins = slices.Clone(protos[p].Ins)
		protos[p].Ins[27] = in(impl.IFn, 3, p+1)
	}
	return map[string]impl.Code{
		"jumps, each to the next":      code(dressedUp(proto(250, jumpsInARow(most-2, 1)...))),
		"jumps, each to the one ahead": code(dressedUp(proto(250, jumpsInARow(most-2, -1)...))),
		"jumps, each by seven":         code(dressedUp(proto(250, jumpsInARow(most-2, 7)...))),
		"branches":                     code(dressedUp(proto(250, append(branches, in(impl.IThrow))...))),
		"guards":                       code(dressedUp(proto(250, guards...))),
		"guards in each other":         code(dressedUp(proto(250, scopes...))),
		"two of three go":              code(dressedUp(proto(250, holes...))),
		"protos":                       code(protos...),
		"a ring that is not reached":   code(dressedUp(proto(250, append([]impl.Ins{in(impl.IList), in(impl.IReturn)}, jumpRing(2, most-2)...)...))),
	}
}

// jumpRing is a ring of so many jumps, the first of which has the number at.
func jumpRing(at, many int) []impl.Ins {
	var list []impl.Ins
	for i := range many {
		list = append(list, in(impl.IJump, at+(i+1)%many))
	}
	return list
}

// The greatest codes are answered in a time that is short even on a slow machine.
func TestTidyOfTheGreatestCodes(t *testing.T) {
	for what, c := range greatestCodes() {
		if fault := impl.CheckCode(c); fault != (impl.CodeFault{}) || insIn(c) != impl.MaxIns {
			t.Errorf("%s: %v, %d instructions", what, fault, insIn(c))
			continue
		}
		begin := time.Now()
		got := impl.Tidy(c)
		if took := time.Since(begin); took > 5*time.Second {
			t.Errorf("%s: %v", what, took)
		} else {
			t.Logf("%s: %v, %d instructions", what, took, insIn(got))
		}
		wellTidied(t, what, c, got)
	}
}
