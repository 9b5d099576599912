package tests

import (
	"fmt"
	"math"
	"slices"
	"testing"

	"loop.example/draft/impl"
)

// spoilt is the unit around a node of this Kind behind a change to it, and the place of that node in fn 1.
func spoilt(kind int, spoil func(x *tree)) (impl.Unit, int) {
	w := &world{vars: 9}
	at := 0
	x := w.sample(kind).marked(&at)
	spoil(&x)
	u := w.around(x)
	return u, at
}

func refused(t *testing.T, what string, kind int, spoil func(x *tree)) {
	t.Helper()
	u, at := spoilt(kind, spoil)
	want(t, fmt.Sprint("kind ", kind, ", ", what), u, impl.Fault{Code: 3, Fn: 1, Node: at})
}

func accepted(t *testing.T, what string, kind int, spoil func(x *tree)) {
	t.Helper()
	u, _ := spoilt(kind, spoil)
	valid(t, fmt.Sprint("kind ", kind, ", ", what), u)
}

func TestKindsThatThereAreNot(t *testing.T) {
	for _, kind := range []int{0, -1, 15, 19, 39, 100, math.MinInt, math.MaxInt} {
		for _, line := range []int{0, 7} {
			x := impl.Node{Kind: kind, Line: line}
			u := impl.Unit{Fns: []impl.Fn{{Nodes: []impl.Node{x, {Kind: impl.NBlock, Line: 1, Kids: []int{0}}}}}}
			want(t, fmt.Sprint("kind ", kind), u, impl.Fault{Code: 3})
			u.Fns[0].Nodes = []impl.Node{x}
			want(t, fmt.Sprint("body of kind ", kind), u, impl.Fault{Code: 3})
		}
	}
}

func TestLinesOfNodes(t *testing.T) {
	for _, kind := range allKinds {
		for _, line := range []int{0, 1, impl.MaxLine, -1, impl.MaxLine + 1, math.MinInt, math.MaxInt} {
			put := func(x *tree) { x.node.Line = line }
			fits := line == 0
			if isStatement(kind) {
				fits = line == 1 || line == impl.MaxLine
			}
			if fits {
				accepted(t, fmt.Sprint("line ", line), kind, put)
			} else {
				refused(t, fmt.Sprint("line ", line), kind, put)
			}
		}
	}
}

func TestFieldsThatAreNotUsed(t *testing.T) {
	usesOp := []int{impl.NUnary, impl.NBinary, impl.NTable}
	usesNum := []int{impl.NSet, impl.NInt, impl.NBuiltin}
	usesRefs := []int{impl.NLet, impl.NFor, impl.NEach, impl.NTry, impl.NVar, impl.NUp, impl.NFn}
	for _, kind := range allKinds {
		if !slices.Contains(usesOp, kind) {
			for _, op := range []int{1, 19, -1, math.MinInt, math.MaxInt} {
				refused(t, fmt.Sprint("op ", op), kind, func(x *tree) { x.node.Op = op })
			}
		}
		if !slices.Contains(usesNum, kind) {
			for _, num := range []int64{1, -1, math.MinInt64, math.MaxInt64} {
				refused(t, fmt.Sprint("num ", num), kind, func(x *tree) { x.node.Num = num })
			}
		}
		if kind != impl.NFlt {
			for _, flt := range []float64{1, -1, math.NaN(), math.Inf(1), math.SmallestNonzeroFloat64} {
				refused(t, fmt.Sprint("flt ", flt), kind, func(x *tree) { x.node.Flt = flt })
			}
			accepted(t, "a zero with a sign", kind, func(x *tree) { x.node.Flt = math.Copysign(0, -1) })
		}
		if kind != impl.NStr {
			refused(t, "str", kind, func(x *tree) { x.node.Str = "s" })
			refused(t, "str of a zero byte", kind, func(x *tree) { x.node.Str = "\x00" })
		}
		if !slices.Contains(usesRefs, kind) {
			refused(t, "a ref", kind, func(x *tree) { x.node.Refs = []int{0} })
		}
	}
}

func TestFieldsThatAreUsed(t *testing.T) {
	for _, op := range []int{math.MinInt, -1, 0, impl.OpLen + 1, math.MaxInt} {
		refused(t, fmt.Sprint("op ", op), impl.NUnary, func(x *tree) { x.node.Op = op })
		refused(t, fmt.Sprint("op ", op), impl.NBinary, func(x *tree) { x.node.Op = op })
	}
	refused(t, "the last binary op", impl.NUnary, func(x *tree) { x.node.Op = impl.OpGe })
	refused(t, "the first unary op", impl.NBinary, func(x *tree) { x.node.Op = impl.OpNeg })
	for _, op := range []int{math.MinInt, -1, 2, math.MaxInt} {
		refused(t, fmt.Sprint("op ", op), impl.NTable, func(x *tree) {
			x.node.Op = op
			x.kids = []tree{one(), call(none())}
		})
	}
	for _, num := range []int64{math.MinInt64, -1, impl.Builtins, math.MaxInt64} {
		refused(t, fmt.Sprint("num ", num), impl.NBuiltin, func(x *tree) { x.node.Num = num })
	}
	refused(t, "a NaN", impl.NFlt, func(x *tree) { x.node.Flt = math.NaN() })
	refused(t, "a NaN with a sign", impl.NFlt, func(x *tree) { x.node.Flt = math.Float64frombits(0xfff8000000000001) })
	accepted(t, "the longest str", impl.NStr, func(x *tree) { x.node.Str = longText(impl.MaxStr) })
	refused(t, "a str too long", impl.NStr, func(x *tree) { x.node.Str = longText(impl.MaxStr + 1) })
}

func TestTargetsOfSet(t *testing.T) {
	for _, num := range []int64{math.MinInt64, -1, 0, 3, 4, math.MaxInt64} {
		refused(t, fmt.Sprint("num ", num), impl.NSet, func(x *tree) {
			x.node.Num = num
			x.kids = []tree{variable(0), variable(0), variable(0)}
		})
	}
	for num := range int64(2) {
		accepted(t, fmt.Sprint("num ", num+1), impl.NSet, func(x *tree) {
			x.node.Num = num + 1
			x.kids = []tree{variable(0), variable(0), variable(0)}
		})
	}
	refused(t, "no expression", impl.NSet, func(x *tree) { x.kids = x.kids[:1] })
	refused(t, "no kids", impl.NSet, func(x *tree) { x.kids = nil })
	refused(t, "no kids and no targets", impl.NSet, func(x *tree) {
		x.node.Num = 0
		x.kids = nil
	})
}

func TestNumberOfRefs(t *testing.T) {
	bounds := map[int][2]int{
		impl.NLet: {1, 9}, impl.NFor: {1, 1}, impl.NEach: {1, 4}, impl.NTry: {2, 2},
		impl.NVar: {1, 1}, impl.NUp: {1, 1}, impl.NFn: {1, 1},
	}
	for kind, bound := range bounds {
		for many := range 10 {
			put := func(x *tree) {
				if len(x.node.Refs) == many {
					return
				}
				x.node.Refs = nil
				for v := range many {
					x.node.Refs = append(x.node.Refs, v+1)
				}
			}
			if bound[0] <= many && many <= bound[1] {
				accepted(t, fmt.Sprint(many, " refs"), kind, put)
			} else {
				refused(t, fmt.Sprint(many, " refs"), kind, put)
			}
		}
	}
}

// Of how many Refs a NLet may have nothing is said: too many of them are a fault of what they name.
func TestManyRefsOfLet(t *testing.T) {
	refs := make([]int, impl.MaxVars+1)
	for i := range refs {
		refs[i] = i
	}
	u := text(impl.MaxVars, stmt(impl.NLet).refs(refs[:impl.MaxVars]...))
	valid(t, "all variables", u)
	u.Fns[0].Nodes[0].Refs = refs
	want(t, "one more", u, impl.Fault{Code: 6})
}

func TestNumberOfKids(t *testing.T) {
	bounds := map[int][2]int{
		impl.NBlock: {0, impl.MaxKids}, impl.NLet: {0, impl.MaxKids}, impl.NReturn: {0, impl.MaxKids},
		impl.NCall: {1, impl.MaxKids}, impl.NIf: {2, 3}, impl.NWhile: {2, 2}, impl.NFor: {4, 4}, impl.NEach: {2, 2},
		impl.NTry: {2, 2}, impl.NDo: {1, 1}, impl.NThrow: {1, 1}, impl.NDefer: {1, 1}, impl.NAnd: {2, 2}, impl.NOr: {2, 2},
		impl.NUnary: {1, 1}, impl.NBinary: {2, 2}, impl.NIndex: {2, 2}, impl.NOne: {1, 1}, impl.NSet: {2, impl.MaxKids},
	}
	for _, kind := range allKinds {
		if kind == impl.NTable {
			continue
		}
		bound := bounds[kind]
		for _, many := range []int{0, 1, 2, 3, 4, 5, impl.MaxKids - 1, impl.MaxKids, impl.MaxKids + 1} {
			put := func(x *tree) { x.kids = kidsOf(kind, many) }
			if bound[0] <= many && many <= bound[1] {
				accepted(t, fmt.Sprint(many, " kids"), kind, put)
			} else {
				refused(t, fmt.Sprint(many, " kids"), kind, put)
			}
		}
	}
}

// kidsOf gives so many kids, each of a Kind that may stand at its place if that place is there at all.
func kidsOf(kind, many int) []tree {
	var kids []tree
	for i := range many {
		switch kind {
		case impl.NBlock, impl.NTry:
			kids = append(kids, block())
		case impl.NIf:
			kids = append(kids, []tree{none(), block()}[min(i, 1)])
		case impl.NWhile, impl.NEach, impl.NFor:
			kids = append(kids, []tree{none(), block()}[(i+1)/many])
		case impl.NDo, impl.NDefer, impl.NOne:
			kids = append(kids, call(none()))
		case impl.NSet:
			kids = append(kids, variable(0))
		default:
			kids = append(kids, none())
		}
	}
	return kids
}

func TestNumberOfPairs(t *testing.T) {
	for _, many := range []int{0, 1, 2, 3, 4, impl.MaxKids - 1, impl.MaxKids, impl.MaxKids + 1, impl.MaxKids + 2} {
		for op := range 2 {
			put := func(x *tree) {
				x.node.Op = op
				for range many {
					x.kids = append(x.kids, one())
				}
				if many > 0 {
					x.kids[many-1] = call(none())
				}
			}
			what := fmt.Sprint(many, " kids, op ", op)
			if many%2 == 0 && many <= impl.MaxKids && (op == 0 || many > 0) {
				accepted(t, what, impl.NTable, put)
			} else {
				refused(t, what, impl.NTable, put)
			}
		}
	}
}

func TestKidsThatThereAreNot(t *testing.T) {
	for _, kid := range []int{1, 2, 3, 4, -1, math.MinInt, math.MaxInt} {
		u := text(0, giveBack(none()), block())
		u.Fns[0].Nodes[1].Kids[0] = kid
		want(t, fmt.Sprint("kid ", kid), u, impl.Fault{Code: 3, Node: 1})
	}
}

// A node that would be right as a kid at this place, but is the node itself or one behind it.
func TestKidsNotAhead(t *testing.T) {
	for _, kid := range []int{1, 2} {
		u := text(0, giveBack(expr(impl.NUnary, none()).op(impl.OpNot), none()))
		u.Fns[0].Nodes[1].Kids[0] = kid
		want(t, fmt.Sprint("expression ", kid, " as a kid of 1"), u, impl.Fault{Code: 3, Node: 1})
	}
	for _, kid := range []int{1, 2} {
		u := text(0, block(block()), block())
		u.Fns[0].Nodes[1].Kids[0] = kid
		want(t, fmt.Sprint("block ", kid, " as a kid of 1"), u, impl.Fault{Code: 3, Node: 1})
	}
	u := text(0, block())
	u.Fns[0].Nodes[1].Kids[0] = 1
	want(t, "a body in itself", u, impl.Fault{Code: 3, Node: 1})
}

// may says which Kinds a word of kidPlaces stands for.
func may(word string, kind int) bool {
	switch word {
	case "statement":
		return isStatement(kind)
	case "expression":
		return !isStatement(kind)
	case "block":
		return kind == impl.NBlock
	case "else":
		return kind == impl.NBlock || kind == impl.NIf
	case "call":
		return kind == impl.NCall
	case "many":
		return kind == impl.NCall || kind == impl.NRest
	case "target":
		return kind == impl.NVar || kind == impl.NUp || kind == impl.NIndex
	}
	return kind == impl.NInt
}

var kidPlaces = []struct {
	kind, op int
	num      int64
	kids     []string
}{
	{kind: impl.NBlock, kids: []string{"statement", "statement"}},
	{kind: impl.NLet, kids: []string{"expression", "expression"}},
	{kind: impl.NSet, num: 1, kids: []string{"target", "expression", "expression"}},
	{kind: impl.NSet, num: 2, kids: []string{"target", "target", "expression"}},
	{kind: impl.NDo, kids: []string{"call"}},
	{kind: impl.NIf, kids: []string{"expression", "block"}},
	{kind: impl.NIf, kids: []string{"expression", "block", "else"}},
	{kind: impl.NWhile, kids: []string{"expression", "block"}},
	{kind: impl.NFor, kids: []string{"expression", "expression", "expression", "block"}},
	{kind: impl.NEach, kids: []string{"expression", "block"}},
	{kind: impl.NReturn, kids: []string{"expression", "expression"}},
	{kind: impl.NTry, kids: []string{"block", "block"}},
	{kind: impl.NThrow, kids: []string{"expression"}},
	{kind: impl.NDefer, kids: []string{"call"}},
	{kind: impl.NAnd, kids: []string{"expression", "expression"}},
	{kind: impl.NOr, kids: []string{"expression", "expression"}},
	{kind: impl.NUnary, op: impl.OpNot, kids: []string{"expression"}},
	{kind: impl.NBinary, op: impl.OpJoin, kids: []string{"expression", "expression"}},
	{kind: impl.NIndex, kids: []string{"expression", "expression"}},
	{kind: impl.NCall, kids: []string{"expression", "expression", "expression"}},
	{kind: impl.NTable, kids: []string{"expression", "expression", "expression", "expression"}},
	{kind: impl.NTable, op: 1, kids: []string{"int", "many"}},
	{kind: impl.NTable, op: 1, kids: []string{"expression", "expression", "int", "many"}},
	{kind: impl.NOne, kids: []string{"many"}},
}

// Every Kind is tried at every place of every Kind that has kids; the other kids are right.
func TestKindsOfKids(t *testing.T) {
	fill := map[string]int{
		"statement": impl.NReturn, "expression": impl.NStr, "block": impl.NBlock, "else": impl.NIf,
		"call": impl.NCall, "many": impl.NRest, "target": impl.NIndex, "int": impl.NInt,
	}
	for _, row := range kidPlaces {
		for place, word := range row.kids {
			for _, kid := range allKinds {
				w, at := &world{}, 0
				x := w.sample(row.kind).op(row.op).num(row.num).marked(&at)
				x.kids = nil
				for i, other := range row.kids {
					kind := fill[other]
					if i == place {
						kind = kid
					}
					x.kids = append(x.kids, w.sample(kind))
				}
				u := w.around(x)
				what := fmt.Sprint("kind ", kid, " at place ", place, " of kind ", row.kind)
				if may(word, kid) {
					valid(t, what, u)
				} else {
					want(t, what, u, impl.Fault{Code: 3, Fn: 1, Node: at})
				}
			}
		}
	}
}
