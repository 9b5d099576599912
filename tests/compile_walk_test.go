package tests

import (
	"fmt"
	"slices"

	"loop.example/draft/impl"
)

// walker runs a fn of a unit by its tree: what each node means, told without registers.
type walker struct {
	w    *toyWorld
	u    impl.Unit
	at   int
	fn   impl.Fn
	ups  []*thing
	rest []thing
	line int
	// cells are the variables in scope, kept the calls of the blocks with defers, the innermost last, out what is returned.
	cells map[int]*thing
	kept  [][]toyCall
	out   []thing
}

// How a statement ends.
const (
	goesOn = iota
	breaks
	nexts
	returned
)

// walked runs a unit by its trees.
func walked(u impl.Unit, seed uint64, events int) []string {
	w := newWorld(seed, events)
	w.run = func(fn *toyFn, args []thing) []thing {
		k := &walker{w: w, u: u, at: fn.fn, fn: u.Fns[fn.fn], ups: fn.ups, cells: map[int]*thing{}}
		for p := range k.fn.Params {
			k.cells[p] = &thing{text: "nil"}
			if p < len(args) {
				*k.cells[p] = args[p]
			}
		}
		if k.fn.Rest {
			k.rest = args[min(k.fn.Params, len(args)):]
		}
		return w.entered(k.seen, func() []thing {
			// A return is none when a kept call throws and that is caught.
			if k.statement(len(k.fn.Nodes)-1) != returned {
				return nil
			}
			return k.out
		})
	}
	return w.ran()
}

func (k *walker) seen() string {
	var vars []string
	for v, name := range k.fn.Vars {
		if cell, there := k.cells[v]; there {
			vars = append(vars, name+"="+cell.text)
		}
	}
	return seenText(k.at, k.line, vars)
}

func firstOf(list []thing) thing { return elementOf(list, 0) }

func elementOf(list []thing, i int) thing {
	if i < len(list) {
		return list[i]
	}
	return thing{text: "nil"}
}

func (k *walker) one(n int) thing {
	x := k.fn.Nodes[n]
	switch x.Kind {
	case impl.NNil:
		return thing{text: "nil"}
	case impl.NTrue:
		return thing{text: "true"}
	case impl.NFalse:
		return thing{text: "false"}
	case impl.NInt:
		return thing{text: fmt.Sprint("i", x.Num)}
	case impl.NFlt:
		return thing{text: fmt.Sprint("f", x.Flt)}
	case impl.NStr:
		return thing{text: "s" + x.Str}
	case impl.NBuiltin:
		return thing{text: fmt.Sprint("b", x.Num)}
	case impl.NVar:
		return *k.cells[x.Refs[0]]
	case impl.NUp:
		return *k.ups[x.Refs[0]]
	case impl.NRest:
		return firstOf(k.rest)
	case impl.NFn:
		return k.closure(x.Refs[0])
	case impl.NAnd, impl.NOr:
		if first := k.one(x.Kids[0]); isTrue(first) == (x.Kind == impl.NOr) {
			return first
		}
		return k.one(x.Kids[1])
	case impl.NUnary:
		a := k.one(x.Kids[0])
		return k.w.operation("unary ", x.Op, a.text)
	case impl.NBinary:
		a, b := k.one(x.Kids[0]), k.one(x.Kids[1])
		return k.w.operation("binary ", x.Op, a.text, b.text)
	case impl.NIndex:
		a, b := k.one(x.Kids[0]), k.one(x.Kids[1])
		return k.w.operation("index ", a.text, b.text)
	case impl.NCall:
		return firstOf(k.many(n))
	case impl.NOne:
		return firstOf(k.many(x.Kids[0]))
	}
	return k.table(x)
}

func (k *walker) closure(g int) thing {
	var ups []*thing
	for _, up := range k.u.Fns[g].Ups {
		if up.Local {
			ups = append(ups, k.cells[up.Index])
		} else {
			ups = append(ups, k.ups[up.Index])
		}
	}
	return k.w.newFn(g, ups)
}

func (k *walker) table(x impl.Node) thing {
	table := k.w.newTable()
	for i := 0; i < len(x.Kids); i += 2 {
		key := k.one(x.Kids[i])
		if x.Op == 1 && i+2 == len(x.Kids) {
			k.w.may("all into ", table.text, key.text, textOf(k.many(x.Kids[i+1])))
		} else {
			k.w.may("into ", table.text, key.text, k.one(x.Kids[i+1]).text)
		}
	}
	return table
}

func (k *walker) many(n int) []thing {
	x := k.fn.Nodes[n]
	if x.Kind == impl.NRest {
		return slices.Clone(k.rest)
	}
	f := k.one(x.Kids[0])
	return k.w.call(f, k.list(x.Kids[1:]))
}

func (k *walker) list(kids []int) (out []thing) {
	for i, n := range kids {
		if kind := k.fn.Nodes[n].Kind; i+1 == len(kids) && (kind == impl.NCall || kind == impl.NRest) {
			out = append(out, k.many(n)...)
		} else {
			out = append(out, k.one(n))
		}
	}
	return out
}

// declare brings a variable into scope, a new one each time.
func (k *walker) declare(v int, x thing) { k.cells[v] = &x }

func (k *walker) forget(vars []int) {
	for _, v := range vars {
		delete(k.cells, v)
	}
}

func (k *walker) statement(n int) int {
	x := k.fn.Nodes[n]
	if x.Kind == impl.NBlock {
		return k.block(x)
	}
	k.line = x.Line
	k.w.show("line")
	switch x.Kind {
	case impl.NLet:
		for j, value := range k.spread(len(x.Refs), x.Kids) {
			k.declare(x.Refs[j], value)
		}
	case impl.NSet:
		k.set(x)
	case impl.NDo:
		k.many(x.Kids[0])
	case impl.NIf:
		if isTrue(k.one(x.Kids[0])) {
			return k.statement(x.Kids[1])
		} else if len(x.Kids) == 3 {
			return k.statement(x.Kids[2])
		}
	case impl.NWhile:
		return k.while(x)
	case impl.NFor:
		return k.count(x)
	case impl.NEach:
		return k.each(x)
	case impl.NBreak:
		return breaks
	case impl.NNext:
		return nexts
	case impl.NReturn:
		k.out = k.list(x.Kids)
		return returned
	case impl.NTry:
		return k.try(x)
	case impl.NThrow:
		panic(thrown{k.one(x.Kids[0])})
	case impl.NDefer:
		call := k.fn.Nodes[x.Kids[0]]
		f := k.one(call.Kids[0])
		last := len(k.kept) - 1
		k.kept[last] = append(k.kept[last], toyCall{k.line, f, k.list(call.Kids[1:])})
	}
	return goesOn
}

func (k *walker) statements(list []int) int {
	for _, n := range list {
		if end := k.statement(n); end != goesOn {
			return end
		}
	}
	return goesOn
}

func (k *walker) block(x impl.Node) (end int) {
	for _, n := range x.Kids {
		if k.fn.Nodes[n].Kind == impl.NLet {
			defer k.forget(k.fn.Nodes[n].Refs)
		}
	}
	if !slices.ContainsFunc(x.Kids, func(n int) bool { return k.fn.Nodes[n].Kind == impl.NDefer }) {
		return k.statements(x.Kids)
	}
	k.kept = append(k.kept, nil)
	err := thrownBy(func() { end = k.statements(x.Kids) })
	last := len(k.kept) - 1
	calls := k.kept[last]
	k.kept = k.kept[:last]
	if err = k.w.runKept(calls, &k.line, err); err != nil {
		panic(*err)
	}
	return end
}

// spread is one value for each of so many.
func (k *walker) spread(many int, kids []int) (out []thing) {
	if many == 1 && len(kids) == 1 {
		return []thing{k.one(kids[0])}
	}
	list := k.list(kids)
	for j := range many {
		out = append(out, elementOf(list, j))
	}
	return out
}

func (k *walker) set(x impl.Node) {
	var parts []thing
	for _, n := range x.Kids[:x.Num] {
		if target := k.fn.Nodes[n]; target.Kind == impl.NIndex {
			parts = append(parts, k.one(target.Kids[0]), k.one(target.Kids[1]))
		}
	}
	for j, value := range k.spread(int(x.Num), x.Kids[x.Num:]) {
		switch target := k.fn.Nodes[x.Kids[j]]; target.Kind {
		case impl.NVar:
			*k.cells[target.Refs[0]] = value
		case impl.NUp:
			*k.ups[target.Refs[0]] = value
		case impl.NIndex:
			k.w.may("set ", parts[0].text, parts[1].text, value.text)
			parts = parts[2:]
		}
	}
}

// turn runs the body of a loop, and says whether there may be another turn.
func (k *walker) turn(x impl.Node, values []thing) (end int, again bool) {
	for j, v := range x.Refs {
		k.declare(v, elementOf(values, j))
	}
	defer k.forget(x.Refs)
	switch end := k.statement(x.Kids[len(x.Kids)-1]); end {
	case breaks:
		return goesOn, false
	case returned:
		return end, false
	}
	k.line = x.Line
	return goesOn, true
}

func (k *walker) while(x impl.Node) int {
	for {
		k.w.show("tick")
		if !isTrue(k.one(x.Kids[0])) {
			return goesOn
		}
		if end, again := k.turn(x, nil); !again {
			return end
		}
	}
}

func (k *walker) count(x impl.Node) int {
	a, b, c := k.one(x.Kids[0]), k.one(x.Kids[1]), k.one(x.Kids[2])
	at := k.w.counting(a, b, c)
	for at[0].num <= at[1].num {
		k.w.show("tick")
		if end, again := k.turn(x, at[:1]); !again {
			return end
		}
		at[0] = counted(at[0], at[2])
	}
	return goesOn
}

func (k *walker) each(x impl.Node) int {
	through := k.one(x.Kids[0])
	for place := k.w.eachBegin(through); ; place.num++ {
		values, more := k.w.eachTurn(through, place)
		if !more {
			return goesOn
		}
		if end, again := k.turn(x, values); !again {
			return end
		}
	}
}

func (k *walker) try(x impl.Node) (end int) {
	kept := len(k.kept)
	err := thrownBy(func() { end = k.statement(x.Kids[0]) })
	if err == nil {
		return end
	}
	k.kept = k.kept[:kept]
	k.declare(x.Refs[0], err.what)
	k.declare(x.Refs[1], k.w.trace(*err))
	defer k.forget(x.Refs)
	return k.statement(x.Kids[1])
}
