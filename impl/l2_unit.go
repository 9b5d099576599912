package impl

import (
	"cmp"
	"math"
)

const (
	MaxFns   = 300
	MaxNodes = 3000
	MaxVars  = 200
	MaxKids  = 200
	MaxNest  = 100
	MaxName  = 40
	MaxLine  = 100000
)

const (
	NBlock  = 1
	NLet    = 2
	NSet    = 3
	NDo     = 4
	NIf     = 5
	NWhile  = 6
	NFor    = 7
	NEach   = 8
	NBreak  = 9
	NNext   = 10
	NReturn = 11
	NTry    = 12
	NThrow  = 13
	NDefer  = 14

	NNil     = 20
	NTrue    = 21
	NFalse   = 22
	NInt     = 23
	NFlt     = 24
	NStr     = 25
	NVar     = 26
	NUp      = 27
	NBuiltin = 28
	NAnd     = 29
	NOr      = 30
	NUnary   = 31
	NBinary  = 32
	NIndex   = 33
	NCall    = 34
	NTable   = 35
	NFn      = 36
	NRest    = 37
	NOne     = 38
)

const (
	BPrint   = 0
	BRead    = 1
	BType    = 2
	BText    = 3
	BSetKind = 4
	BKind    = 5
	BRawGet  = 6
	BRawSet  = 7
	BTask    = 8
	BResume  = 9
	BYield   = 10
	BStatus  = 11
	BGiveUp  = 12
	BCollect = 13
	BCells   = 14
	Builtins = 15
)

// Node is a part of a fn's text.
type Node struct {
	Kind int
	Line int
	Op   int
	Num  int64
	Flt  float64
	Str  string
	Refs []int
	Kids []int
}

// Up says what a fn closes over: a variable of the fn in which it stands, or what that one closes over.
type Up struct {
	Local bool
	Index int
}

// Fn is a fn's text: its variables, parameters first, what it closes over, and its nodes, the body last.
type Fn struct {
	Name   string
	Line   int
	Params int
	Rest   bool
	Vars   []string
	Ups    []Up
	Nodes  []Node
}

// Unit is a text whose names are bound; fn 0 is the text itself.
type Unit struct {
	Fns []Fn
}

// Fault is what is wrong with a unit, and where.
type Fault struct {
	Code int
	Fn   int
	Node int
}

// CheckUnit answers the first fault of a unit: by its code, then by its fn, then by its node; the zero value when the unit is valid.
func CheckUnit(u Unit) Fault {
	// Each of these leans on what those ahead of it have refused: Kids that are nodes, and nodes that form a tree.
	checks := []func(Unit) Fault{checkSize, checkHeads, checkNodes, checkParents, checkTrees, checkMade}
	for _, check := range checks {
		if fault := check(u); fault.Code != 0 {
			return fault
		}
	}
	return Fault{}
}

// within says whether low <= x <= high.
func within[T cmp.Ordered](x, low, high T) bool {
	return low <= x && x <= high
}

func checkSize(u Unit) Fault {
	nodes := 0
	for _, fn := range u.Fns {
		nodes += len(fn.Nodes)
	}
	if !within(len(u.Fns), 1, MaxFns) || nodes > MaxNodes {
		return Fault{Code: 1}
	}
	return Fault{}
}

func checkHeads(u Unit) Fault {
	for f, fn := range u.Fns {
		if !headFits(fn) || f == 0 && (fn.Params != 0 || len(fn.Ups) != 0) {
			return Fault{Code: 2, Fn: f}
		}
	}
	return Fault{}
}

// headFits says whether all that a fn has beside its nodes is as it has to be in any place of the unit.
func headFits(fn Fn) bool {
	if len(fn.Nodes) == 0 || len(fn.Vars) > MaxVars || len(fn.Ups) > MaxVars {
		return false
	}
	for _, name := range fn.Vars {
		if !within(len(name), 1, MaxName) {
			return false
		}
	}
	return within(fn.Params, 0, len(fn.Vars)) && within(fn.Line, 0, MaxLine) && len(fn.Name) <= MaxName
}

// The fields that a Kind of node uses beside Line, Refs and Kids.
const (
	usesNothing = iota
	usesTargets
	usesInt
	usesFlt
	usesStr
	usesBuiltin
	usesUnaryOp
	usesBinaryOp
	usesTableOp
)

// nodeRole is what the tables of nodes say of a Kind: what it uses, and how many Refs and Kids it has.
type nodeRole struct {
	kind     int
	uses     int
	minRefs  int
	mostRefs int
	minKids  int
	mostKids int
}

var nodeRoles = [...]nodeRole{
	{NBlock, usesNothing, 0, 0, 0, MaxKids},
	{NLet, usesNothing, 1, math.MaxInt, 0, MaxKids},
	{NSet, usesTargets, 0, 0, 2, MaxKids},
	{NDo, usesNothing, 0, 0, 1, 1},
	{NIf, usesNothing, 0, 0, 2, 3},
	{NWhile, usesNothing, 0, 0, 2, 2},
	{NFor, usesNothing, 1, 1, 4, 4},
	{NEach, usesNothing, 1, 4, 2, 2},
	{NBreak, usesNothing, 0, 0, 0, 0},
	{NNext, usesNothing, 0, 0, 0, 0},
	{NReturn, usesNothing, 0, 0, 0, MaxKids},
	{NTry, usesNothing, 2, 2, 2, 2},
	{NThrow, usesNothing, 0, 0, 1, 1},
	{NDefer, usesNothing, 0, 0, 1, 1},
	{NNil, usesNothing, 0, 0, 0, 0},
	{NTrue, usesNothing, 0, 0, 0, 0},
	{NFalse, usesNothing, 0, 0, 0, 0},
	{NInt, usesInt, 0, 0, 0, 0},
	{NFlt, usesFlt, 0, 0, 0, 0},
	{NStr, usesStr, 0, 0, 0, 0},
	{NVar, usesNothing, 1, 1, 0, 0},
	{NUp, usesNothing, 1, 1, 0, 0},
	{NBuiltin, usesBuiltin, 0, 0, 0, 0},
	{NAnd, usesNothing, 0, 0, 2, 2},
	{NOr, usesNothing, 0, 0, 2, 2},
	{NUnary, usesUnaryOp, 0, 0, 1, 1},
	{NBinary, usesBinaryOp, 0, 0, 2, 2},
	{NIndex, usesNothing, 0, 0, 2, 2},
	{NCall, usesNothing, 0, 0, 1, MaxKids},
	{NTable, usesTableOp, 0, 0, 0, MaxKids},
	{NFn, usesNothing, 1, 1, 0, 0},
	{NRest, usesNothing, 0, 0, 0, 0},
	{NOne, usesNothing, 0, 0, 1, 1},
}

func rolesByKind() map[int]nodeRole {
	roles := make(map[int]nodeRole, len(nodeRoles))
	for _, role := range nodeRoles {
		roles[role.kind] = role
	}
	return roles
}

func checkNodes(u Unit) Fault {
	roles := rolesByKind()
	for f, fn := range u.Fns {
		for n, x := range fn.Nodes {
			role, known := roles[x.Kind]
			if !known || !roleFits(x, role) || !kidsFit(fn.Nodes, n) {
				return Fault{Code: 3, Fn: f, Node: n}
			}
		}
	}
	return Fault{}
}

func isStatement(kind int) bool { return within(kind, NBlock, NDefer) }

func isExpression(kind int) bool { return within(kind, NNil, NOne) }

// isMany says whether a node of this Kind can stand for a list of values.
func isMany(kind int) bool { return kind == NCall || kind == NRest }

func roleFits(x Node, role nodeRole) bool {
	line := x.Line == 0
	if isStatement(x.Kind) {
		line = within(x.Line, 1, MaxLine)
	}
	return line && fieldsFit(x, role.uses) &&
		within(len(x.Refs), role.minRefs, role.mostRefs) && within(len(x.Kids), role.minKids, role.mostKids)
}

func fieldsFit(x Node, uses int) bool {
	op, num, flt, str := x.Op == 0, x.Num == 0, x.Flt == 0, x.Str == ""
	switch uses {
	case usesTargets:
		num = within(x.Num, 1, int64(len(x.Kids))-1)
	case usesInt:
		num = true
	case usesFlt:
		flt = !math.IsNaN(x.Flt)
	case usesStr:
		str = len(x.Str) <= MaxStr
	case usesBuiltin:
		num = within(x.Num, 0, Builtins-1)
	case usesUnaryOp:
		op = within(x.Op, OpNeg, OpLen)
	case usesBinaryOp:
		op = within(x.Op, OpAdd, OpGe)
	case usesTableOp:
		op = x.Op == 0 || x.Op == 1 && len(x.Kids) > 0
	}
	return op && num && flt && str
}

// kidsFit says whether the Kids of node n, whose number is right, stand ahead of it and are of Kinds that may stand there.
func kidsFit(nodes []Node, n int) bool {
	x := nodes[n]
	for i, kid := range x.Kids {
		if !within(kid, 0, n-1) || !mayStand(x, i, nodes[kid].Kind) {
			return false
		}
	}
	return x.Kind != NTable || len(x.Kids)%2 == 0
}

// mayStand says whether kid i of node x may be of this Kind.
func mayStand(x Node, i, kind int) bool {
	behind := len(x.Kids) - 1 - i
	switch x.Kind {
	case NBlock:
		return isStatement(kind)
	case NSet:
		if int64(i) < x.Num {
			return kind == NVar || kind == NUp || kind == NIndex
		}
	case NDo, NDefer:
		return kind == NCall
	case NTry:
		return kind == NBlock
	case NIf:
		if i > 0 {
			return kind == NBlock || i == 2 && kind == NIf
		}
	case NWhile, NFor, NEach:
		if behind == 0 {
			return kind == NBlock
		}
	case NTable:
		if x.Op == 1 && behind == 1 {
			return kind == NInt
		}
		if x.Op == 1 && behind == 0 {
			return isMany(kind)
		}
	case NOne:
		return isMany(kind)
	}
	return isExpression(kind)
}

func checkParents(u Unit) Fault {
	for f, fn := range u.Fns {
		last := len(fn.Nodes) - 1
		parents := make([]int, len(fn.Nodes))
		for _, x := range fn.Nodes {
			for _, kid := range x.Kids {
				parents[kid]++
			}
		}
		for n, x := range fn.Nodes {
			if n < last && parents[n] != 1 || n == last && x.Kind != NBlock {
				return Fault{Code: 4, Fn: f, Node: n}
			}
		}
	}
	return Fault{}
}

// site is where a node stands in a unit.
type site struct {
	fn   int
	node int
}

// makers tells for each fn that some NFn names the first of these, by fn, then by node.
func makers(u Unit) map[int]site {
	first := make(map[int]site)
	for f, fn := range u.Fns {
		for n, x := range fn.Nodes {
			if x.Kind != NFn {
				continue
			}
			if _, made := first[x.Refs[0]]; !made {
				first[x.Refs[0]] = site{f, n}
			}
		}
	}
	return first
}

func checkTrees(u Unit) Fault {
	first := makers(u)
	least := Fault{}
	for f, fn := range u.Fns {
		v := newVisitor(u, f, first)
		v.least = least
		v.declarations()
		v.visit(len(fn.Nodes) - 1)
		least = v.least
	}
	return least
}

func checkMade(u Unit) Fault {
	first := makers(u)
	for f := 1; f < len(u.Fns); f++ {
		if _, made := first[f]; !made {
			return Fault{Code: 9, Fn: f}
		}
	}
	return Fault{}
}

// visitor goes through the tree of one fn. Kids need not have the order of their numbers there, so it goes on behind a fault and keeps the least.
type visitor struct {
	unit   Unit
	at     int
	fn     Fn
	steps  map[int]func(int)
	makers map[int]site
	// scope counts for each variable the declarations whose scope is open: with a fault there may be several.
	scope []int
	loops int
	depth int
	least Fault
}

func newVisitor(u Unit, f int, first map[int]site) *visitor {
	fn := u.Fns[f]
	v := &visitor{unit: u, at: f, fn: fn, makers: first, scope: make([]int, len(fn.Vars))}
	for p := range fn.Params {
		v.scope[p] = 1
	}
	v.steps = map[int]func(int){
		NBlock: v.block, NLet: v.let, NWhile: v.loop, NFor: v.loop, NEach: v.loop, NTry: v.try,
		NBreak: v.leave, NNext: v.leave, NVar: v.variable, NUp: v.up, NFn: v.closure, NRest: v.rest,
	}
	return v
}

// tell keeps the fault if it comes ahead of the one at hand.
func (v *visitor) tell(code, n int) {
	fault := Fault{Code: code, Fn: v.at, Node: n}
	order := cmp.Or(cmp.Compare(fault.Code, v.least.Code), cmp.Compare(fault.Fn, v.least.Fn), cmp.Compare(fault.Node, v.least.Node))
	if v.least.Code == 0 || order < 0 {
		v.least = fault
	}
}

// declarations looks for what is declared a second time. It goes by the nodes' numbers, not by the tree, as "second" is meant so.
func (v *visitor) declarations() {
	declared := make([]int, len(v.fn.Vars))
	for p := range v.fn.Params {
		declared[p] = 1
	}
	for n, x := range v.fn.Nodes {
		if x.Kind != NLet && x.Kind != NFor && x.Kind != NEach && x.Kind != NTry {
			continue
		}
		for _, ref := range x.Refs {
			if !v.isVariable(ref) || declared[ref] > 0 {
				v.tell(6, n)
				break
			}
			declared[ref] = 1
		}
	}
}

func (v *visitor) isVariable(ref int) bool { return within(ref, 0, len(v.fn.Vars)-1) }

func (v *visitor) inScope(ref int) bool { return v.isVariable(ref) && v.scope[ref] > 0 }

func (v *visitor) visit(n int) {
	if v.depth > MaxNest {
		v.tell(5, n)
	}
	step, special := v.steps[v.fn.Nodes[n].Kind]
	if !special {
		step = v.kids
	}
	v.depth++
	step(n)
	v.depth--
}

func (v *visitor) kids(n int) {
	for _, kid := range v.fn.Nodes[n].Kids {
		v.visit(kid)
	}
}

// shift opens the scope of what node n declares by 1, and ends it by -1.
func (v *visitor) shift(n, by int) {
	for _, ref := range v.fn.Nodes[n].Refs {
		if v.isVariable(ref) {
			v.scope[ref] += by
		}
	}
}

func (v *visitor) block(n int) {
	v.kids(n)
	for _, kid := range v.fn.Nodes[n].Kids {
		if v.fn.Nodes[kid].Kind == NLet {
			v.shift(kid, -1)
		}
	}
}

func (v *visitor) let(n int) {
	v.kids(n)
	v.shift(n, 1)
}

// body visits the last kid of node n, the one in which alone what n declares is in scope, behind the others.
func (v *visitor) body(n, inLoop int) {
	kids := v.fn.Nodes[n].Kids
	last := len(kids) - 1
	for _, kid := range kids[:last] {
		v.visit(kid)
	}
	v.shift(n, 1)
	v.loops += inLoop
	v.visit(kids[last])
	v.loops -= inLoop
	v.shift(n, -1)
}

func (v *visitor) loop(n int) { v.body(n, 1) }

func (v *visitor) try(n int) { v.body(n, 0) }

func (v *visitor) leave(n int) {
	if v.loops == 0 {
		v.tell(7, n)
	}
}

func (v *visitor) variable(n int) {
	if !v.inScope(v.fn.Nodes[n].Refs[0]) {
		v.tell(6, n)
	}
}

func (v *visitor) up(n int) {
	if !within(v.fn.Nodes[n].Refs[0], 0, len(v.fn.Ups)-1) {
		v.tell(6, n)
	}
}

func (v *visitor) rest(n int) {
	if !v.fn.Rest {
		v.tell(8, n)
	}
}

func (v *visitor) closure(n int) {
	g := v.fn.Nodes[n].Refs[0]
	if !within(g, 0, len(v.unit.Fns)-1) {
		v.tell(6, n)
		return
	}
	if g <= v.at || v.makers[g] != (site{v.at, n}) || !v.upsFit(v.unit.Fns[g].Ups) {
		v.tell(8, n)
	}
}

// upsFit says whether a fn that is made at this point of the tree can close over these.
func (v *visitor) upsFit(ups []Up) bool {
	for _, up := range ups {
		if up.Local && !v.inScope(up.Index) || !up.Local && !within(up.Index, 0, len(v.fn.Ups)-1) {
			return false
		}
	}
	return true
}
