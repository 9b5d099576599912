package tests

import (
	"fmt"
	"slices"
	"testing"

	"loop.example/draft/impl"
)

// book is kept of the registers of a fn while chapter 5 is followed line by line: who holds each, "" when nobody does. No line may put something where something is, or take what is not there.
type book struct {
	fn    impl.Fn
	held  []string
	homes []int
	wrong string
}

func newBook(fn impl.Fn) *book {
	b := &book{fn: fn}
	for range fn.Vars {
		b.homes = append(b.homes, -1)
	}
	for p := range fn.Params {
		b.settle(p, b.fresh("an argument"))
	}
	if fn.Rest {
		b.fresh("the rest")
	}
	begin := b.top()
	b.statement(len(fn.Nodes) - 1)
	b.expect(begin, "the body")
	b.drop(b.fresh("the empty list"))
	return b
}

// top is the register behind all that is held.
func (b *book) top() int {
	for r := len(b.held); r > 0; r-- {
		if b.held[r-1] != "" {
			return r
		}
	}
	return 0
}

func (b *book) put(r int, who string) {
	for len(b.held) <= r {
		b.held = append(b.held, "")
	}
	if b.held[r] != "" {
		b.fail(fmt.Sprintf("%s comes to %d, where %s is", who, r, b.held[r]))
	}
	b.held[r] = who
}

func (b *book) drop(r int) {
	if b.held[r] == "" {
		b.fail(fmt.Sprintf("nothing is in %d", r))
	}
	b.held[r] = ""
}

func (b *book) dropFrom(r int) {
	for r < b.top() {
		b.held[b.top()-1] = ""
	}
}

func (b *book) fail(wrong string) {
	if b.wrong == "" {
		b.wrong = wrong
	}
}

// expect says that behind a line of the document the top is this one.
func (b *book) expect(top int, behind string) {
	if b.top() != top {
		b.fail(fmt.Sprintf("top is %d behind %s, not %d", b.top(), behind, top))
	}
}

func (b *book) fresh(who string) int {
	r := b.top()
	b.put(r, who)
	return r
}

// settle says that variable v is in register r from now on.
func (b *book) settle(v, r int) {
	if b.homes[v] != -1 {
		b.fail(fmt.Sprintf("variable %d is declared twice", v))
	}
	b.held[r] = fmt.Sprintf("variable %d", v)
	b.homes[v] = r
}

func (b *book) one(n int) int {
	r, x := b.top(), b.fn.Nodes[n]
	switch x.Kind {
	case impl.NAnd, impl.NOr:
		b.one(x.Kids[0])
		b.drop(r)
		b.one(x.Kids[1])
	case impl.NUnary:
		b.one(x.Kids[0])
	case impl.NBinary, impl.NIndex:
		b.one(x.Kids[0])
		b.one(x.Kids[1])
		b.drop(r + 1)
	case impl.NCall:
		b.many(n)
	case impl.NOne:
		b.many(x.Kids[0])
	case impl.NTable:
		b.fresh("a table")
		for i := 0; i < len(x.Kids); i += 2 {
			b.one(x.Kids[i])
			if x.Op == 1 && i+2 == len(x.Kids) {
				b.many(x.Kids[i+1])
			} else {
				b.one(x.Kids[i+1])
			}
			b.drop(r + 1)
			b.drop(r + 2)
		}
	case impl.NVar:
		if home := b.homes[x.Refs[0]]; home < 0 || b.held[home] != fmt.Sprintf("variable %d", x.Refs[0]) {
			b.fail(fmt.Sprintf("variable %d is read, and is not in %d", x.Refs[0], home))
		}
		b.fresh("what a variable holds")
	default:
		b.fresh("a value")
	}
	b.expect(r+1, "an expression")
	return r
}

func (b *book) many(n int) int {
	r, x := b.top(), b.fn.Nodes[n]
	if x.Kind == impl.NRest {
		return b.fresh("the copied rest")
	}
	b.one(x.Kids[0])
	b.drop(b.list(x.Kids[1:]))
	b.expect(r+1, "a call")
	return r
}

func (b *book) list(kids []int) int {
	r := b.fresh("a list")
	for i, n := range kids {
		if last := i+1 == len(kids); last && slices.Contains([]int{impl.NCall, impl.NRest}, b.fn.Nodes[n].Kind) {
			b.drop(b.many(n))
		} else {
			b.drop(b.one(n))
		}
	}
	b.expect(r+1, "a list")
	return r
}

// spread puts the values of some expressions into so many registers.
func (b *book) spread(registers int, kids []int) (into []int) {
	for range registers {
		into = append(into, b.fresh("room"))
	}
	b.drop(b.list(kids))
	return into
}

func (b *book) statement(n int) {
	r, x := b.top(), b.fn.Nodes[n]
	behind := r
	switch x.Kind {
	case impl.NBlock:
		for _, kid := range x.Kids {
			b.statement(kid)
		}
		b.dropFrom(r)
	case impl.NLet:
		b.let(x)
		behind = r + len(x.Refs)
	case impl.NSet:
		b.set(x)
	case impl.NDo:
		b.drop(b.many(x.Kids[0]))
	case impl.NIf:
		b.drop(b.one(x.Kids[0]))
		for _, kid := range x.Kids[1:] {
			b.statement(kid)
		}
	case impl.NWhile:
		b.drop(b.one(x.Kids[0]))
		b.statement(x.Kids[1])
	case impl.NFor, impl.NEach:
		b.loop(x)
	case impl.NReturn:
		b.drop(b.list(x.Kids))
	case impl.NTry:
		b.statement(x.Kids[0])
		b.expect(r, "the first block of a try")
		b.settle(x.Refs[0], b.fresh("what was caught"))
		b.settle(x.Refs[1], b.fresh("its trace"))
		b.statement(x.Kids[1])
		b.dropFrom(r)
	case impl.NThrow:
		b.drop(b.one(x.Kids[0]))
	case impl.NDefer:
		call := b.fn.Nodes[x.Kids[0]]
		b.one(call.Kids[0])
		b.drop(b.list(call.Kids[1:]))
		b.drop(r)
	}
	b.expect(behind, fmt.Sprint("a statement of kind ", x.Kind))
}

func (b *book) let(x impl.Node) {
	switch {
	case len(x.Refs) == 1 && len(x.Kids) == 1:
		b.settle(x.Refs[0], b.one(x.Kids[0]))
	case len(x.Kids) == 0:
		var into []int
		for range x.Refs {
			into = append(into, b.fresh("nil"))
		}
		for j, r := range into {
			b.settle(x.Refs[j], r)
		}
	default:
		for j, r := range b.spread(len(x.Refs), x.Kids) {
			b.settle(x.Refs[j], r)
		}
	}
}

func (b *book) set(x impl.Node) {
	r, targets := b.top(), x.Kids[:x.Num]
	for _, n := range targets {
		if target := b.fn.Nodes[n]; target.Kind == impl.NIndex {
			b.one(target.Kids[0])
			b.one(target.Kids[1])
		}
	}
	if expressions := x.Kids[x.Num:]; len(targets) == 1 && len(expressions) == 1 {
		b.one(expressions[0])
	} else {
		b.spread(len(targets), expressions)
	}
	b.dropFrom(r)
}

func (b *book) loop(x impl.Node) {
	r, last := b.top(), len(x.Kids)-1
	for _, n := range x.Kids[:last] {
		b.one(n)
	}
	if x.Kind == impl.NFor {
		b.settle(x.Refs[0], b.fresh("the counter"))
	} else {
		b.fresh("the place in what is gone through")
		list := b.fresh("the values of the turn")
		for _, v := range x.Refs {
			b.settle(v, b.fresh("one of them"))
		}
		b.drop(list)
	}
	b.statement(x.Kids[last])
	b.dropFrom(r)
}

// closedOver goes by the fns that close over something, and marks it where they are made.
func closedOver(u impl.Unit, f int) []bool {
	out := make([]bool, len(u.Fns[f].Vars))
	for g, made := range u.Fns {
		here := slices.ContainsFunc(u.Fns[f].Nodes, func(x impl.Node) bool { return x.Kind == impl.NFn && x.Refs[0] == g })
		for _, up := range made.Ups {
			if here && up.Local {
				out[up.Index] = true
			}
		}
	}
	return out
}

// shuffle gives the variables of each fn but its parameters other numbers, so that these tell nothing of the order in which they are declared.
func (g *grower) shuffle(u *impl.Unit) {
	for f := range u.Fns {
		fn := &u.Fns[f]
		now := make([]int, len(fn.Vars))
		for v := range now {
			now[v] = v
			if v > fn.Params {
				other := fn.Params + g.d.below(v-fn.Params+1)
				now[v], now[other] = now[other], now[v]
			}
		}
		for _, x := range fn.Nodes {
			if x.Kind == impl.NVar || slices.Contains(declaring, x.Kind) {
				for i, v := range x.Refs {
					x.Refs[i] = now[v]
				}
			}
			if x.Kind == impl.NFn {
				for i, up := range u.Fns[x.Refs[0]].Ups {
					if up.Local {
						u.Fns[x.Refs[0]].Ups[i].Index = now[up.Index]
					}
				}
			}
		}
	}
}

func TestPlansAgainstTheBook(t *testing.T) {
	g := &grower{d: 11}
	var fns, vars, undeclared, closed, high int
	for round := range 3000 {
		u := g.unit()
		if impl.CheckUnit(u) != (impl.Fault{}) {
			continue
		}
		g.shuffle(&u)
		if g.d.below(2) == 0 {
			g.renumber(&u)
		}
		for f, fn := range u.Fns {
			b, capt, home := newBook(fn), impl.Captured(u, f), impl.Homes(u, f)
			if b.wrong != "" {
				t.Fatalf("round %d: the book does not hold: %s in %s", round, b.wrong, show(u))
			}
			if want := closedOver(u, f); !slices.Equal(capt, want) {
				t.Fatalf("round %d, fn %d: captured are %v, want %v in %s", round, f, capt, want, show(u))
			}
			if !slices.Equal(home, b.homes) {
				t.Fatalf("round %d, fn %d: homes are %v, want %v in %s", round, f, home, b.homes, show(u))
			}
			if wrong := newOracle(u).wrongHomes(f, capt, home); wrong != "" {
				t.Fatalf("round %d, fn %d: %s in %s", round, f, wrong, show(u))
			}
			fns++
			for v := range fn.Vars {
				vars++
				if home[v] == -1 {
					undeclared++
				}
				if capt[v] {
					closed++
				}
				if home[v] > 8 {
					high++
				}
			}
		}
	}
	t.Log("fns, variables, not declared, closed over, above register 8:", fns, vars, undeclared, closed, high)
	if min(fns, vars, undeclared, closed, high) < 500 {
		t.Error("too few of one sort came")
	}
}
