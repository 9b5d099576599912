package tests

import (
	"fmt"
	"math"
	"slices"
	"testing"

	"loop.example/draft/impl"
)

var far = []int{math.MinInt, math.MinInt + 1, -1 << 32, -1000000, 1000000, 1 << 32, math.MaxInt - 1, math.MaxInt}

func faultOf(code, proto, at int) impl.CodeFault {
	return impl.CodeFault{Code: code, Proto: proto, At: at}
}

func TestCountOfProtos(t *testing.T) {
	wantShape(t, "no protos", impl.Code{}, faultOf(1, 0, 0))
	wantShape(t, "an empty list of protos", impl.Code{Protos: []impl.Proto{}}, faultOf(1, 0, 0))
	for _, many := range []int{1, 2, impl.MaxProtos - 1, impl.MaxProtos, impl.MaxProtos + 1, impl.MaxProtos + 50} {
		c := making(slices.Repeat([]impl.Proto{ending()}, many-1)...)
		if many == 1 {
			c = code(ending())
		}
		if many <= impl.MaxProtos {
			verified(t, fmt.Sprint(many, " protos"), c)
		} else {
			wantShape(t, fmt.Sprint(many, " protos"), c, faultOf(1, 0, 0))
		}
	}
}

func TestCountOfInstructions(t *testing.T) {
	for _, many := range []int{impl.MaxIns - 1, impl.MaxIns, impl.MaxIns + 1, 2 * impl.MaxIns} {
		long := code(proto(1, slices.Repeat([]impl.Ins{in(impl.ITick)}, many)...))
		long.Protos[0].Ins[many-1] = in(impl.IJump, 0)
		spread := making(ending(), ending())
		for left := many - 7; left > 0; left-- {
			p := &spread.Protos[left%3]
			p.Ins = append([]impl.Ins{in(impl.ITick)}, p.Ins...)
		}
		for i, c := range []impl.Code{long, spread} {
			if many <= impl.MaxIns {
				verified(t, fmt.Sprint(many, " instructions, ", i), c)
			} else {
				wantShape(t, fmt.Sprint(many, " instructions, ", i), c, faultOf(1, 0, 0))
			}
		}
	}
}

// heads are changes to a proto's head, and whether they are let pass.
type headChange struct {
	what  string
	fits  bool
	apply func(p *impl.Proto)
}

func headChanges() []headChange {
	var list []headChange
	add := func(what string, fits bool, apply func(p *impl.Proto)) {
		list = append(list, headChange{what, fits, apply})
	}
	for _, bytes := range []int{0, 1, impl.MaxName, impl.MaxName + 1, 500} {
		add(fmt.Sprint("name of ", bytes), bytes <= impl.MaxName, func(p *impl.Proto) { p.Name = longText(bytes) })
	}
	for _, l := range append([]int{-1, 0, 1, impl.MaxLine, impl.MaxLine + 1}, far...) {
		add(fmt.Sprint("line ", l), l >= 0 && l <= impl.MaxLine, func(p *impl.Proto) { p.Line = l })
	}
	for _, regs := range append([]int{-1, 1, impl.MaxRegs, impl.MaxRegs + 1}, far...) {
		add(fmt.Sprint("regs ", regs), regs >= 1 && regs <= impl.MaxRegs, func(p *impl.Proto) { p.Regs = regs })
	}
	for _, ups := range []int{impl.MaxRegs, impl.MaxRegs + 1, 1000} {
		add(fmt.Sprint("ups ", ups), ups <= impl.MaxRegs, func(p *impl.Proto) {
			p.Ups = slices.Repeat([]impl.Up{local(1)}, ups)
		})
	}
	for _, consts := range []int{0, impl.MaxConsts, impl.MaxConsts + 1, 2000} {
		add(fmt.Sprint("consts ", consts), consts <= impl.MaxConsts, func(p *impl.Proto) {
			p.Consts = make([]impl.Value, consts)
		})
	}
	return list
}

func TestHeadsOfProtos(t *testing.T) {
	for at := range 4 {
		for _, h := range headChanges() {
			c := making(ending(), ending(), ending())
			c.Protos[0].Ins = append(filling(".b"), c.Protos[0].Ins...)
			if at == 0 {
				c.Protos[0].Ins = ending().Ins
				c.Protos = c.Protos[:1]
			}
			h.apply(&c.Protos[at])
			what := fmt.Sprint("proto ", at, ", ", h.what)
			if h.fits && (at > 0 || len(c.Protos[0].Ups) == 0) {
				verified(t, what, c)
			} else {
				wantShape(t, what, c, faultOf(2, at, 0))
			}
		}
	}
}

// Only Params and Ups are refused of proto 0 and no other.
func TestHeadOfProto0(t *testing.T) {
	c := making(ending())
	c.Protos[0].Rest = true
	verified(t, "proto 0 with rest", c)
	c.Protos[0].Params = 1
	wantShape(t, "proto 0 with a parameter", c, faultOf(2, 0, 0))
	c = making(ending())
	c.Protos[0].Ups = []impl.Up{{}}
	wantShape(t, "proto 0 with an up", c, faultOf(2, 0, 0))
	c.Protos[0].Ups = []impl.Up{}
	verified(t, "proto 0 with an empty list of ups", c)
}

func TestParamsOfProtos(t *testing.T) {
	for _, regs := range []int{0, 1, 2, 3, 100, impl.MaxRegs} {
		for _, rest := range []bool{false, true} {
			for _, params := range append([]int{-1, 0, 1, 2, regs - 2, regs - 1, regs, regs + 1, regs + 2}, far...) {
				p := impl.Proto{Regs: regs, Params: params, Rest: rest, Ins: []impl.Ins{in(impl.ITick), in(impl.IJump, 0)}}
				most := regs
				if rest {
					most--
				}
				what := fmt.Sprint("regs ", regs, ", rest ", rest, ", params ", params)
				if params >= 0 && params <= most {
					verified(t, what, making(ending(), p))
				} else {
					wantShape(t, what, making(ending(), p), faultOf(2, 2, 0))
				}
			}
		}
	}
}

type constCase struct {
	value impl.Value
	fits  bool
}

// consts are values, right ones and wrong ones.
func consts() []constCase {
	zero := math.Copysign(0, -1)
	var list []constCase
	right := func(values ...impl.Value) {
		for _, v := range values {
			list = append(list, constCase{v, true})
		}
	}
	wrong := func(values ...impl.Value) {
		for _, v := range values {
			list = append(list, constCase{v, false})
		}
	}
	right(impl.Value{}, impl.Value{Kind: impl.KBool}, impl.Value{Kind: impl.KBool, Num: 1},
		intConst(0), intConst(math.MinInt64), intConst(math.MaxInt64),
		impl.Value{Kind: impl.KFlt}, impl.Value{Kind: impl.KFlt, Flt: zero}, impl.Value{Kind: impl.KFlt, Flt: math.Inf(1)},
		impl.Value{Kind: impl.KFlt, Flt: math.Inf(-1)}, impl.Value{Kind: impl.KFlt, Flt: math.SmallestNonzeroFloat64},
		impl.Value{Kind: impl.KStr}, impl.Value{Kind: impl.KStr, Str: "s"},
		impl.Value{Kind: impl.KStr, Str: longText(impl.MaxStr)}, impl.Value{Kind: impl.KStr, Str: "\xff\x00"},
		impl.Value{Kind: impl.KBuiltin}, impl.Value{Kind: impl.KBuiltin, Num: impl.Builtins - 1})
	wrong(impl.Value{Kind: impl.KBool, Num: 2}, impl.Value{Kind: impl.KBool, Num: -1},
		impl.Value{Kind: impl.KBool, Num: math.MinInt64}, impl.Value{Kind: impl.KBool, Num: math.MaxInt64},
		impl.Value{Kind: impl.KFlt, Flt: math.NaN()}, impl.Value{Kind: impl.KFlt, Flt: math.Float64frombits(0xfff8000000000001)},
		impl.Value{Kind: impl.KFlt, Flt: math.Float64frombits(0x7ff0000000000001)},
		impl.Value{Kind: impl.KStr, Str: longText(impl.MaxStr + 1)},
		impl.Value{Kind: impl.KBuiltin, Num: impl.Builtins}, impl.Value{Kind: impl.KBuiltin, Num: -1},
		impl.Value{Kind: impl.KBuiltin, Num: math.MaxInt64}, impl.Value{Kind: impl.KBuiltin, Num: math.MinInt64})
	for _, kind := range []int{impl.KTable, impl.KFn, impl.KTask} {
		wrong(impl.Value{Kind: kind}, impl.Value{Kind: kind, Ref: 1}, impl.Value{Kind: kind, Ref: -1})
	}
	for _, kind := range append([]int{-1, 9, 10}, far...) {
		wrong(impl.Value{Kind: kind})
	}
	for _, kind := range []int{impl.KNil, impl.KBool, impl.KInt, impl.KFlt, impl.KStr, impl.KBuiltin} {
		wrong(impl.Value{Kind: kind, Ref: 1}, impl.Value{Kind: kind, Ref: -1}, impl.Value{Kind: kind, Ref: math.MaxInt})
		if kind != impl.KFlt {
			wrong(impl.Value{Kind: kind, Flt: 1}, impl.Value{Kind: kind, Flt: math.NaN()}, impl.Value{Kind: kind, Flt: zero},
				impl.Value{Kind: kind, Flt: math.Inf(-1)}, impl.Value{Kind: kind, Flt: math.SmallestNonzeroFloat64})
		}
		if kind != impl.KStr {
			wrong(impl.Value{Kind: kind, Str: "s"}, impl.Value{Kind: kind, Str: "\x00"})
		}
		if kind == impl.KNil || kind == impl.KFlt || kind == impl.KStr {
			wrong(impl.Value{Kind: kind, Num: 1}, impl.Value{Kind: kind, Num: -1})
		}
	}
	return list
}

func TestConsts(t *testing.T) {
	for _, x := range consts() {
		for at := range 3 {
			for i := range 3 {
				c := making(ending(), ending())
				c.Protos[at].Consts = []impl.Value{intConst(5), {}, intConst(6)}
				c.Protos[at].Consts[i] = x.value
				what := fmt.Sprintf("proto %d, const %d: %.60v", at, i, fmt.Sprintf("%#v", x.value))
				if x.fits {
					verified(t, what, c)
				} else {
					wantShape(t, what, c, faultOf(3, at, i))
				}
			}
		}
	}
}

func TestNamed(t *testing.T) {
	type named struct {
		x    impl.Named
		fits bool
	}
	var list []named
	for _, bytes := range []int{0, 1, impl.MaxName, impl.MaxName + 1} {
		list = append(list, named{impl.Named{Name: longText(bytes)}, bytes > 0 && bytes <= impl.MaxName})
	}
	for _, reg := range append([]int{-2, -1, 0, 1, 2, 3}, far...) {
		list = append(list, named{impl.Named{Name: "n", Reg: reg, To: 1}, reg >= 0 && reg < 2})
	}
	edges := append([]int{-2, -1, 0, 1, 2, 3, 4}, far...)
	for _, from := range edges {
		for _, to := range edges {
			list = append(list, named{impl.Named{Name: "n", From: from, To: to}, 0 <= from && from <= to && to <= 2})
		}
	}
	right := impl.Named{Name: "right", Reg: 1, From: 0, To: 2}
	for _, x := range list {
		for at := range 2 {
			for i := range 3 {
				p := ending()
				p.Regs = 2
				p.Named = []impl.Named{right, right, right}
				p.Named[i] = x.x
				what := fmt.Sprintf("proto %d, named %d: %#v", at+1, i, x.x)
				protos := []impl.Proto{ending(), ending()}
				protos[at] = p
				if x.fits {
					verified(t, what, making(protos...))
				} else {
					wantShape(t, what, making(protos...), faultOf(4, at+1, i))
				}
			}
		}
	}
}

func TestCountOfNamed(t *testing.T) {
	for _, many := range []int{impl.MaxConsts - 1, impl.MaxConsts, impl.MaxConsts + 1, impl.MaxConsts + 2, 3000} {
		p := ending()
		p.Named = slices.Repeat([]impl.Named{{Name: "n"}}, many)
		c := making(ending(), p)
		what := fmt.Sprint("named ", many)
		if many <= impl.MaxConsts {
			verified(t, what, c)
			continue
		}
		wantShape(t, what, c, faultOf(4, 2, impl.MaxConsts))
		p.Named[many-1].Reg = 9
		wantShape(t, what+", and a wrong one", c, faultOf(4, 2, impl.MaxConsts))
		p.Named[7].Reg = 9
		wantShape(t, what+", and a wrong one ahead", c, faultOf(4, 2, 7))
	}
	p := proto(0, in(impl.ITick), in(impl.IJump, 0))
	p.Named = []impl.Named{{Name: "n"}}
	wantShape(t, "named with no registers", making(p), faultOf(4, 1, 0))
}

func TestEndOfProtos(t *testing.T) {
	for at := range 3 {
		for _, list := range [][]impl.Ins{nil, {}} {
			c := making(ending(), ending())
			if at == 0 {
				c = code(ending())
			}
			c.Protos[at].Ins = list
			wantShape(t, fmt.Sprint("no instructions in ", at), c, faultOf(5, at, 0))
		}
	}
	for op := 1; op <= opCount; op++ {
		x, _ := usual.low(op)
		c := usual.world(x)
		list := &c.Protos[1].Ins
		for _, behind := range []int{0, 1, 2} {
			*list = append(slices.Repeat([]impl.Ins{in(impl.ITick)}, behind), x)
			what := fmt.Sprint("op ", op, " at the end, behind ", behind)
			if op == impl.IJump || op == impl.IReturn || op == impl.IThrow {
				rightShape(t, what, c)
			} else {
				wantShape(t, what, c, faultOf(5, 1, behind))
			}
		}
	}
}

func TestFnsOfIFn(t *testing.T) {
	fn := func(b int) impl.Ins { return in(impl.IFn, 0, b) }
	end := in(impl.IThrow, took(0))
	chain := func(bs ...int) impl.Code {
		c := impl.Code{}
		for _, b := range bs {
			p := proto(2, fn(b), end)
			if b == 0 {
				p = ending()
			}
			c.Protos = append(c.Protos, p)
		}
		return c
	}
	verified(t, "a chain", chain(1, 2, 3, 0))
	c := chain(2, 0, 1)
	c.Protos[2].Ins[0] = fn(1)
	wantShape(t, "a fn not above", c, faultOf(6, 2, 0))
	c = chain(1, 2, 0)
	c.Protos[1].Ins[0] = fn(1)
	wantShape(t, "itself", c, faultOf(6, 1, 0))
	c.Protos[1].Ins[0] = fn(0)
	wantShape(t, "the text", c, faultOf(6, 1, 0))
	c = chain(1, 2, 0)
	c.Protos[0].Ins = []impl.Ins{fn(1), fn(2), end}
	wantShape(t, "made a second time, in another proto", c, faultOf(6, 1, 0))
	c.Protos[1] = ending()
	verified(t, "made once each", c)
	c.Protos[0].Ins = []impl.Ins{fn(1), fn(2), fn(1), end}
	wantShape(t, "made a second time, in the same proto", c, faultOf(6, 0, 2))
	c.Protos[0].Ins = []impl.Ins{fn(2), end, fn(1), in(impl.IJump, 0)}
	verified(t, "made where nothing comes to", c)
	c.Protos[0].Ins = []impl.Ins{fn(2), end, fn(2), in(impl.IJump, 0)}
	wantShape(t, "made again where nothing comes to", c, faultOf(6, 0, 2))
	c.Protos[0].Ins = []impl.Ins{in(impl.IFn, 0, 0), end}
	wantShape(t, "the text in itself", c, faultOf(6, 0, 0))
}

func TestUpsOfIFn(t *testing.T) {
	for _, isLocal := range []bool{true, false} {
		for _, index := range append([]int{-2, -1, 0, 1, 2, 3, 4}, far...) {
			for place := range 3 {
				inner := ending(outer(0), local(1), outer(1))
				inner.Ups[place] = impl.Up{Local: isLocal, Index: index}
				middle := proto(3, in(impl.ITick))
				middle.Ups = []impl.Up{local(0), local(0)}
				middle.Ins = append(filling("bbb"), in(impl.IFn, 0, 2), in(impl.IThrow, 0))
				first := proto(1, append(filling("b"), in(impl.IFn, 0, 1), in(impl.IThrow, 0))...)
				c := code(first, middle, inner)
				what := fmt.Sprint("local ", isLocal, ", index ", index, ", place ", place)
				if index >= 0 && (isLocal && index < 3 || !isLocal && index < 2) {
					verified(t, what, c)
				} else {
					wantShape(t, what, c, faultOf(6, 1, 6))
				}
			}
		}
	}
	inner := ending(outer(0))
	wantShape(t, "an up of the text", making(ending(), inner), faultOf(6, 0, 1))
}

func TestProtosThatAreNeverMade(t *testing.T) {
	for unmade := 1; unmade <= 3; unmade++ {
		c := making(ending(), ending(), ending())
		c.Protos[0].Ins[unmade-1] = in(impl.IConst)
		wantShape(t, fmt.Sprint("never made: ", unmade), c, faultOf(7, unmade, 0))
		for also := unmade + 1; also <= 3; also++ {
			c.Protos[0].Ins[also-1] = in(impl.IConst)
		}
		wantShape(t, fmt.Sprint("never made: ", unmade, " and all behind it"), c, faultOf(7, unmade, 0))
	}
}
