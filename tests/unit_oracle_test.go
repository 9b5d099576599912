package tests

import (
	"math"
	"slices"
	"testing"

	"loop.example/draft/impl"
)

// oracle asks the list of faults line by line: for each code each fn, for each fn each node. It is slow, and looks for what is around a node from the node upwards.
type oracle struct {
	u impl.Unit
	// above are for each node of each fn the nodes of which it is a kid, one as often as it is, with the place among its kids.
	above [][][][2]int
}

func newOracle(u impl.Unit) oracle {
	o := oracle{u: u}
	for _, fn := range u.Fns {
		above := make([][][2]int, len(fn.Nodes))
		for p, x := range fn.Nodes {
			for i, kid := range x.Kids {
				if 0 <= kid && kid < len(above) {
					above[kid] = append(above[kid], [2]int{p, i})
				}
			}
		}
		o.above = append(o.above, above)
	}
	return o
}

func (o oracle) fault() impl.Fault {
	if o.wrongSize() {
		return impl.Fault{Code: 1}
	}
	rules := []func(f, n int) bool{
		o.wrongHead, o.wrongNode, o.wrongParent, o.wrongDepth, o.wrongRefs, o.wrongLeave, o.wrongMaker, o.wrongOrphan,
	}
	for i, rule := range rules {
		code := i + 2
		for f := range o.u.Fns {
			nodes := len(o.u.Fns[f].Nodes)
			if code == 2 || code == 9 {
				nodes = 1
			}
			for n := range nodes {
				if rule(f, n) {
					return impl.Fault{Code: code, Fn: f, Node: n}
				}
			}
		}
	}
	return impl.Fault{}
}

func (o oracle) wrongSize() bool {
	nodes := 0
	for _, fn := range o.u.Fns {
		nodes += len(fn.Nodes)
	}
	return len(o.u.Fns) == 0 || len(o.u.Fns) > impl.MaxFns || nodes > impl.MaxNodes
}

func (o oracle) wrongHead(f, _ int) bool {
	fn := o.u.Fns[f]
	noName := func(s string) bool { return s == "" || len(s) > impl.MaxName }
	return len(fn.Nodes) == 0 || len(fn.Vars) > impl.MaxVars || len(fn.Ups) > impl.MaxVars ||
		fn.Params < 0 || fn.Params > len(fn.Vars) || fn.Line < 0 || fn.Line > impl.MaxLine ||
		len(fn.Name) > impl.MaxName || slices.ContainsFunc(fn.Vars, noName) ||
		f == 0 && (fn.Params != 0 || len(fn.Ups) > 0)
}

// words are what a node's kids have to be, the last one again and again; so many of them at least and at most.
func words(x impl.Node) (kids []string, least, most int) {
	for _, row := range kidPlaces {
		if row.kind == x.Kind {
			kids, least, most = row.kids, len(row.kids), len(row.kids)
			break
		}
	}
	switch x.Kind {
	case impl.NBlock, impl.NLet, impl.NReturn:
		least, most = 0, impl.MaxKids
	case impl.NCall:
		least, most = 1, impl.MaxKids
	case impl.NIf:
		kids, most = []string{"expression", "block", "else"}, 3
	case impl.NSet:
		kids, least, most = nil, 2, impl.MaxKids
		for i := range x.Kids {
			kids = append(kids, map[bool]string{true: "target", false: "expression"}[int64(i) < x.Num])
		}
	case impl.NTable:
		kids, least, most = nil, 0, impl.MaxKids
		for i := range x.Kids {
			kids = append(kids, "expression")
			if x.Op == 1 && i+2 == len(x.Kids) {
				kids[i] = "int"
			} else if x.Op == 1 && i+1 == len(x.Kids) {
				kids[i] = "many"
			}
		}
	}
	return kids, least, most
}

func (o oracle) wrongNode(f, n int) bool {
	x := o.u.Fns[f].Nodes[n]
	if !slices.Contains(allKinds, x.Kind) || wrongFields(x) {
		return true
	}
	kids, least, most := words(x)
	if len(x.Kids) < least || len(x.Kids) > most {
		return true
	}
	for i, kid := range x.Kids {
		if kid < 0 || kid >= n || !may(kids[min(i, len(kids)-1)], o.u.Fns[f].Nodes[kid].Kind) {
			return true
		}
	}
	return false
}

func wrongFields(x impl.Node) bool {
	refs := map[int][2]int{
		impl.NLet: {1, len(x.Refs)}, impl.NFor: {1, 1}, impl.NEach: {1, 4}, impl.NTry: {2, 2},
		impl.NVar: {1, 1}, impl.NUp: {1, 1}, impl.NFn: {1, 1},
	}[x.Kind]
	if len(x.Refs) < refs[0] || len(x.Refs) > refs[1] {
		return true
	}
	if isStatement(x.Kind) && (x.Line < 1 || x.Line > impl.MaxLine) || !isStatement(x.Kind) && x.Line != 0 {
		return true
	}
	switch x.Kind {
	case impl.NSet:
		return x.Num < 1 || x.Num >= int64(len(x.Kids)) || x.Op != 0 || x.Flt != 0 || x.Str != ""
	case impl.NInt:
		return x.Op != 0 || x.Flt != 0 || x.Str != ""
	case impl.NFlt:
		return x.Flt != x.Flt || x.Op != 0 || x.Num != 0 || x.Str != ""
	case impl.NStr:
		return len(x.Str) > impl.MaxStr || x.Op != 0 || x.Num != 0 || x.Flt != 0
	case impl.NBuiltin:
		return x.Num < 0 || x.Num > 14 || x.Op != 0 || x.Flt != 0 || x.Str != ""
	case impl.NUnary:
		return x.Op < 19 || x.Op > 22 || x.Num != 0 || x.Flt != 0 || x.Str != ""
	case impl.NBinary:
		return x.Op < 1 || x.Op > 18 || x.Num != 0 || x.Flt != 0 || x.Str != ""
	case impl.NTable:
		return x.Op != 0 && x.Op != 1 || len(x.Kids)%2 == 1 || x.Op == 1 && len(x.Kids) == 0 ||
			x.Num != 0 || x.Flt != 0 || x.Str != ""
	}
	return x.Op != 0 || x.Num != 0 || x.Flt != 0 || x.Str != ""
}

func (o oracle) wrongParent(f, n int) bool {
	nodes := o.u.Fns[f].Nodes
	if n == len(nodes)-1 {
		return nodes[n].Kind != impl.NBlock
	}
	return len(o.above[f][n]) != 1
}

// path is what is around n, from the inside: each node with the place among its kids at which the way goes down.
func (o oracle) path(f, n int) (out [][2]int) {
	for n != len(o.u.Fns[f].Nodes)-1 {
		step := o.above[f][n][0]
		out = append(out, step)
		n = step[0]
	}
	return out
}

func (o oracle) wrongDepth(f, n int) bool { return len(o.path(f, n)) > impl.MaxNest }

func (o oracle) inScope(f, n, v int) bool {
	fn := o.u.Fns[f]
	if v < 0 || v >= len(fn.Vars) {
		return false
	}
	if v < fn.Params {
		return true
	}
	for _, step := range o.path(f, n) {
		x := fn.Nodes[step[0]]
		switch x.Kind {
		case impl.NBlock:
			for _, ahead := range x.Kids[:step[1]] {
				if fn.Nodes[ahead].Kind == impl.NLet && slices.Contains(fn.Nodes[ahead].Refs, v) {
					return true
				}
			}
		case impl.NFor, impl.NEach, impl.NTry:
			if step[1] == len(x.Kids)-1 && slices.Contains(x.Refs, v) {
				return true
			}
		}
	}
	return false
}

var declaring = []int{impl.NLet, impl.NFor, impl.NEach, impl.NTry}

func (o oracle) wrongRefs(f, n int) bool {
	fn := o.u.Fns[f]
	x := fn.Nodes[n]
	outside := func(ref, many int) bool { return ref < 0 || ref >= many }
	switch x.Kind {
	case impl.NUp:
		return outside(x.Refs[0], len(fn.Ups))
	case impl.NFn:
		return outside(x.Refs[0], len(o.u.Fns))
	case impl.NVar:
		return outside(x.Refs[0], len(fn.Vars)) || !o.inScope(f, n, x.Refs[0])
	}
	if !slices.Contains(declaring, x.Kind) {
		return false
	}
	var before []int
	for p := range fn.Params {
		before = append(before, p)
	}
	for _, y := range fn.Nodes[:n] {
		if slices.Contains(declaring, y.Kind) {
			before = append(before, y.Refs...)
		}
	}
	for _, ref := range x.Refs {
		if outside(ref, len(fn.Vars)) || slices.Contains(before, ref) {
			return true
		}
		before = append(before, ref)
	}
	return false
}

func (o oracle) wrongLeave(f, n int) bool {
	nodes := o.u.Fns[f].Nodes
	if nodes[n].Kind != impl.NBreak && nodes[n].Kind != impl.NNext {
		return false
	}
	for _, step := range o.path(f, n) {
		if kind := nodes[step[0]].Kind; kind == impl.NWhile || kind == impl.NFor || kind == impl.NEach {
			return false
		}
	}
	return true
}

func (o oracle) wrongMaker(f, n int) bool {
	fn := o.u.Fns[f]
	x := fn.Nodes[n]
	if x.Kind == impl.NRest {
		return !fn.Rest
	}
	if x.Kind != impl.NFn {
		return false
	}
	g := x.Refs[0]
	if g <= f {
		return true
	}
	for f2 := range f + 1 {
		for n2, y := range o.u.Fns[f2].Nodes {
			if y.Kind == impl.NFn && y.Refs[0] == g && (f2 < f || n2 < n) {
				return true
			}
		}
	}
	for _, up := range o.u.Fns[g].Ups {
		if up.Local && !o.inScope(f, n, up.Index) || !up.Local && (up.Index < 0 || up.Index >= len(fn.Ups)) {
			return true
		}
	}
	return false
}

func (o oracle) wrongOrphan(f, _ int) bool {
	for _, fn := range o.u.Fns {
		for _, x := range fn.Nodes {
			if x.Kind == impl.NFn && x.Refs[0] == f {
				return false
			}
		}
	}
	return f > 0
}

// grower grows units that are mostly valid.
type grower struct {
	d    dice
	fns  []impl.Fn
	f    int
	seen []int
}

// fresh is a new variable of the fn at hand; now and then there is one more, which is never declared.
func (g *grower) fresh() int {
	fn := &g.fns[g.f]
	fn.Vars = append(fn.Vars, names(1+g.d.below(10)/9)...)
	return len(fn.Vars) - 1
}

// freshOnes are so many at most, and at least one.
func (g *grower) freshOnes(most int) (vars []int) {
	for range 1 + g.d.below(most) {
		vars = append(vars, g.fresh())
	}
	return vars
}

// use is a variable in scope, or now and then one that is closed over.
func (g *grower) use() tree {
	if ups := len(g.fns[g.f].Ups); ups > 0 && g.d.below(3) == 0 {
		return expr(impl.NUp).refs(g.d.below(ups))
	}
	if len(g.seen) == 0 {
		return one()
	}
	return variable(g.seen[g.d.below(len(g.seen))])
}

func (g *grower) expr(deep int) tree {
	kind := allKinds[14+g.d.below(19)]
	if deep <= 0 {
		kind = impl.NVar
	}
	if g.d.below(1000) == 0 {
		return nested(impl.MaxNest - 12 + g.d.below(14))
	}
	switch kind {
	case impl.NVar:
		return g.use()
	case impl.NUp:
		if ups := len(g.fns[g.f].Ups); ups > 0 {
			return expr(kind).refs(g.d.below(ups))
		}
		return g.use()
	case impl.NRest:
		if g.fns[g.f].Rest {
			return expr(kind)
		}
		return g.use()
	case impl.NFn:
		return g.closure()
	case impl.NAnd, impl.NOr, impl.NIndex:
		return expr(kind, g.expr(deep-1), g.expr(deep-1))
	case impl.NUnary:
		return expr(kind, g.expr(deep-1)).op(19 + g.d.below(4))
	case impl.NBinary:
		return expr(kind, g.expr(deep-1), g.expr(deep-1)).op(1 + g.d.below(18))
	case impl.NCall:
		return g.call(deep)
	case impl.NTable:
		return g.table(deep)
	case impl.NOne:
		return expr(kind, g.many(deep))
	}
	return expr(kind)
}

// exprs are so many expressions at most, none now and then.
func (g *grower) exprs(deep, most int) (list []tree) {
	for range g.d.below(most + 1) {
		list = append(list, g.expr(deep))
	}
	return list
}

func (g *grower) call(deep int) tree {
	return call(append([]tree{g.expr(deep - 1)}, g.exprs(deep-1, 2)...)...)
}

func (g *grower) many(deep int) tree {
	if g.fns[g.f].Rest && g.d.below(3) == 0 {
		return expr(impl.NRest)
	}
	return g.call(deep)
}

func (g *grower) table(deep int) tree {
	x := expr(impl.NTable)
	for range g.d.below(3) {
		x.kids = append(x.kids, g.expr(deep-1), g.expr(deep-1))
	}
	if g.d.below(2) == 0 {
		x.kids = append(x.kids, one(), g.many(deep))
		return x.op(1)
	}
	return x
}

func (g *grower) target(deep int) tree {
	ups := len(g.fns[g.f].Ups)
	switch sort := g.d.below(4); {
	case sort < 2 && len(g.seen) > 0:
		return g.use()
	case sort == 2 && ups > 0:
		return expr(impl.NUp).refs(g.d.below(ups))
	}
	return expr(impl.NIndex, g.expr(deep-1), g.use())
}

func (g *grower) set(deep int) tree {
	x := stmt(impl.NSet)
	for range 1 + g.d.below(2)*g.d.below(3) {
		x.kids = append(x.kids, g.target(deep))
	}
	x.node.Num = int64(len(x.kids))
	x.kids = append(x.kids, g.exprs(deep-1, 2)...)
	x.kids = append(x.kids, g.expr(deep))
	return x
}

// closure makes a new fn that closes over what it finds.
func (g *grower) closure() tree {
	if len(g.fns) >= 6 {
		return g.use()
	}
	fn := impl.Fn{Params: g.d.below(3), Rest: g.d.below(2) == 0}
	fn.Vars = names(fn.Params)
	for _, v := range g.seen {
		if g.d.below(3) > 0 {
			fn.Ups = append(fn.Ups, local(v))
		}
	}
	for i := range g.fns[g.f].Ups {
		fn.Ups = append(fn.Ups, outer(i))
	}
	g.fns = append(g.fns, fn)
	return closure(len(g.fns) - 1)
}

func (g *grower) block(deep int, loop bool, more ...int) tree {
	kept := len(g.seen)
	g.seen = append(g.seen, more...)
	x := block()
	for range 1 + g.d.below(4) {
		x.kids = append(x.kids, g.stmt(deep-1, loop))
	}
	g.seen = g.seen[:kept]
	return x
}

func (g *grower) stmt(deep int, loop bool) tree {
	kind := 1 + g.d.below(14)
	if deep <= 0 {
		kind = impl.NLet
	}
	switch kind {
	case impl.NBlock:
		return g.block(deep, loop)
	case impl.NLet:
		return g.let(deep)
	case impl.NSet:
		return g.set(deep)
	case impl.NDo, impl.NDefer:
		return stmt(kind, g.call(deep))
	case impl.NIf:
		x := stmt(kind, g.expr(deep-1), g.block(deep, loop))
		if g.d.below(3) == 0 {
			return stmt(kind, g.expr(deep-1), g.block(deep, loop), x)
		}
		x.kids = append(x.kids, g.block(deep, loop))
		return x
	case impl.NWhile:
		return stmt(kind, g.expr(deep-1), g.block(deep, true))
	case impl.NFor:
		v := g.fresh()
		return stmt(kind, g.expr(deep-1), g.use(), one(), g.block(deep, true, v)).refs(v)
	case impl.NEach:
		vars := g.freshOnes(4)
		return stmt(kind, g.expr(deep-1), g.block(deep, true, vars...)).refs(vars...)
	case impl.NBreak, impl.NNext:
		if loop || g.d.below(40) == 0 {
			return stmt(kind)
		}
		return giveBack(g.expr(deep))
	case impl.NTry:
		v, w := g.fresh(), g.fresh()
		return stmt(kind, g.block(deep, loop), g.block(deep, loop, v, w)).refs(v, w)
	case impl.NThrow:
		return stmt(kind, g.expr(deep))
	}
	return giveBack(g.exprs(deep, 2)...)
}

// let declares one variable with one expression, mostly.
func (g *grower) let(deep int) tree {
	x, most := stmt(impl.NLet, g.expr(deep)), 1
	if g.d.below(3) == 0 {
		x, most = stmt(impl.NLet), 3
		for range g.d.below(3) {
			x.kids = append(x.kids, g.expr(deep-1))
		}
	}
	vars := g.freshOnes(most)
	g.seen = append(g.seen, vars...)
	return x.refs(vars...)
}

func (g *grower) unit() impl.Unit {
	g.fns = []impl.Fn{{Name: "text", Rest: true}}
	for g.f = 0; g.f < len(g.fns); g.f++ {
		g.seen = nil
		for p := range g.fns[g.f].Params {
			g.seen = append(g.seen, p)
		}
		body := g.block(4, false)
		g.fns[g.f].Nodes = nodesOf(body)
	}
	return impl.Unit{Fns: g.fns}
}

func (g *grower) number() int {
	if g.d.below(8) == 0 {
		return []int{math.MinInt, math.MaxInt, -1, 1 << 32, -1 << 31}[g.d.below(5)]
	}
	return g.d.below(12)
}

// place is a number of 0 .. many - 1, mostly.
func (g *grower) place(many int) int {
	if many == 0 || g.d.below(10) == 0 {
		return g.number()
	}
	return g.d.below(many)
}

// spoil changes something in the unit, at times so that it stays valid.
func (g *grower) spoil(u *impl.Unit) {
	fn := &u.Fns[g.d.below(len(u.Fns))]
	x := &fn.Nodes[g.d.below(len(fn.Nodes))]
	switch g.d.below(23) {
	case 0:
		fn.Params = g.number()
	case 1:
		fn.Rest = !fn.Rest
	case 2:
		fn.Line = g.number()
	case 3:
		fn.Vars = append(fn.Vars, longText(38+g.d.below(4)))
	case 4:
		if len(fn.Ups) > 0 {
			fn.Ups[g.d.below(len(fn.Ups))] = impl.Up{Local: g.d.below(2) == 0, Index: g.place(len(fn.Vars))}
		}
	case 5:
		x.Line = g.number()
	case 6:
		x.Op = g.number()
	case 7:
		x.Num = int64(g.number())
	case 8:
		x.Flt = []float64{math.NaN(), math.Copysign(0, -1), 1}[g.d.below(3)]
	case 9:
		x.Kind = g.number()
	case 10, 11:
		if len(x.Refs) > 0 {
			x.Refs[g.d.below(len(x.Refs))] = g.place(len(fn.Vars))
		}
	case 12:
		if len(x.Kids) > 0 {
			x.Kids[g.d.below(len(x.Kids))] = g.place(len(fn.Nodes))
		}
	case 13:
		if len(x.Kids) > 1 {
			i, j := g.d.below(len(x.Kids)), g.d.below(len(x.Kids))
			x.Kids[i], x.Kids[j] = x.Kids[j], x.Kids[i]
		}
	case 14:
		x.Kids = x.Kids[:g.d.below(len(x.Kids)+1)]
	case 15:
		fn.Nodes = fn.Nodes[:g.d.below(len(fn.Nodes))+1]
	case 16:
		u.Fns = append(u.Fns, plain())
	case 17:
		if x.Kind == impl.NWhile {
			x.Kind = impl.NIf
		}
	default:
		g.trade(fn)
	}
}

// trade lets two nodes have each other's places in the tree, if they are of one sort.
func (g *grower) trade(fn *impl.Fn) {
	n, m := g.d.below(len(fn.Nodes)), g.d.below(len(fn.Nodes))
	x, y := fn.Nodes[n].Kind, fn.Nodes[m].Kind
	if isStatement(x) != isStatement(y) || (x == impl.NBlock) != (y == impl.NBlock) || (x == impl.NCall) != (y == impl.NCall) {
		return
	}
	for _, z := range fn.Nodes {
		for i, kid := range z.Kids {
			if kid == n {
				z.Kids[i] = m
			} else if kid == m {
				z.Kids[i] = n
			}
		}
	}
}

// renumber gives the nodes of each fn new places in which kids still stand ahead of their parents.
func (g *grower) renumber(u *impl.Unit) {
	for f := range u.Fns {
		nodes := u.Fns[f].Nodes
		left := make([]int, len(nodes))
		for n := range nodes {
			left[n] = n
		}
		placed := map[int]int{}
		var out []impl.Node
		for len(left) > 0 {
			i := g.d.below(len(left))
			ready := true
			for _, kid := range nodes[left[i]].Kids {
				_, done := placed[kid]
				ready = ready && done
			}
			if !ready {
				continue
			}
			x := nodes[left[i]]
			x.Kids = slices.Clone(x.Kids)
			for k, kid := range x.Kids {
				x.Kids[k] = placed[kid]
			}
			placed[left[i]] = len(out)
			out = append(out, x)
			left = slices.Delete(left, i, i+1)
		}
		u.Fns[f].Nodes = out
	}
}

func TestAgainstTheListOfFaults(t *testing.T) {
	t.Parallel()
	g := &grower{d: 7}
	var told [10]int
	for round := range 8000 {
		u := g.unit()
		if g.d.below(2) == 0 {
			g.renumber(&u)
		}
		for range g.d.below(4) {
			g.spoil(&u)
		}
		fault := newOracle(u).fault()
		told[fault.Code]++
		if got := impl.CheckUnit(u); got != fault {
			t.Fatalf("round %d: got %v, want %v in %s", round, got, fault, show(u))
		}
		planned(t, u, fault)
	}
	t.Log("how often each code came:", told)
	for code, many := range told {
		if code != 1 && many < 20 {
			t.Errorf("code %d came only %d times", code, many)
		}
	}
}
