package tests

import (
	"fmt"
	"strings"
	"testing"

	"loop.example/draft/impl"
)

func TestCompileEmptyTexts(t *testing.T) {
	becomes(t, "nothing", 0, nil, "")
	becomes(t, "blocks of nothing", 0, nil, "", block(), block(block(), block(block())))
	becomes(t, "variables that are never declared", 3, nil, "")
}

func TestCompileLets(t *testing.T) {
	becomes(t, "one with one", 1, nil, "Line 7; Const r #i1; Drop r", let(0, one()))
	becomes(t, "one with a call", 1, nil, "Line 7; Const r #i1; List r+1; Call r ~r ~r+1; First r ~r; Drop r", let(0, call(one())))
	becomes(t, "one with a rest", 1, nil, "Line 7; Pick r 0 0; Drop r", let(0, rest()))
	becomes(t, "one with none", 1, nil, "Line 7; Const r #nil; Drop r", let(0))
	becomes(t, "three with none", 3, nil, "Line 7; Const r #nil; Const r+1 #nil; Const r+2 #nil; Drop r; Drop r+1; Drop r+2", lets(2, 0, 1))
	becomes(t, "one behind the other", 2, nil, "Line 7; Const r #i1; Line 7; Move r+1 r; Drop r; Drop r+1", let(1, one()), let(0, variable(1)))
	becomes(t, "one in a block, one behind it", 2, nil, "Line 7; Const r #i1; Drop r; Line 7; Const r #nil; Drop r", block(let(0, one())), let(1))
	becomes(t, "two in a block, in a block with one", 3, nil,
		"Line 7; Const r #i1; Line 7; Const r+1 #nil; Line 7; Const r+2 #nil; Drop r+1; Drop r+2; Drop r", let(0, one()), block(let(1), let(2)))
}

// letOf is a NLet of so many variables from 0 on with these expressions.
func letOf(vars int, kids ...tree) tree {
	x := stmt(impl.NLet, kids...)
	for v := range vars {
		x.node.Refs = append(x.node.Refs, v)
	}
	return x
}

// picks is the listing of the picks of so many values, from r+from on, out of the list behind them, and of its drop.
func picks(from, many int) string {
	var b strings.Builder
	for j := range many {
		fmt.Fprintf(&b, "Pick r+%d r+%d %d\n", from+j, from+many, j)
	}
	fmt.Fprintf(&b, "Drop r+%d\n", from+many)
	return b.String()
}

// listed is the listing of a list at r+at of expressions, of which last is what the last of them adds.
func listed(at, kids int, last string) string {
	var b strings.Builder
	fmt.Fprintf(&b, "List r+%d\n", at)
	for i := range kids {
		if i+1 == kids && last != "" {
			b.WriteString(strings.NewReplacer("<l>", fmt.Sprint("r+", at), "<e>", fmt.Sprint("r+", at+1), "<n>", fmt.Sprint("r+", at+2)).Replace(last))
		} else {
			fmt.Fprintf(&b, "Const r+%d #i1; Add r+%d ~r+%d\n", at+1, at, at+1)
		}
	}
	return b.String()
}

// lasts are expressions that can stand last in a list, and what they add to it.
var lasts = []struct {
	what    string
	x       tree
	listing string
}{
	{"a constant", one(), ""},
	{"a call", call(one()), "Const <e> #i1; List <n>; Call <e> ~<e> ~<n>; Join <l> ~<e>\n"},
	{"one of a call", only(call(one())), "Const <e> #i1; List <n>; Call <e> ~<e> ~<n>; First <e> ~<e>; Add <l> ~<e>\n"},
	{"a rest", rest(), "Copy <e> 0; Join <l> ~<e>\n"},
	{"one of a rest", only(rest()), "Copy <e> 0; First <e> ~<e>; Add <l> ~<e>\n"},
}

// Fewer, as many and more expressions than variables; with one of each there is no list.
func TestCompileLetsOfSeveral(t *testing.T) {
	for vars := 1; vars <= 4; vars++ {
		for kids := 1; kids <= 5; kids++ {
			if vars == 1 && kids == 1 {
				continue
			}
			for _, last := range lasts {
				what := fmt.Sprint(vars, " variables, ", kids, " expressions, last ", last.what)
				list := append(repeated(one(), kids-1), last.x)
				body := "Line 7\n" + listed(vars, kids, last.listing) + picks(0, vars)
				becomes(t, what, vars, nil, body+dropping(0, vars), letOf(vars, list...))
				boxes := "Box r ~r\n"
				if vars > 2 {
					boxes += "Box r+2 ~r+2\n"
				}
				fns := []impl.Fn{plain(local((vars-1)/2*2), local(0))}
				becomes(t, what+", captured", vars, fns, body+boxes+doing(1, vars)+dropping(0, vars), letOf(vars, list...), do(closure(1)))
			}
		}
	}
}

// repeated is a tree so many times.
func repeated(x tree, times int) (list []tree) {
	for range times {
		list = append(list, x)
	}
	return list
}

func TestCompileCapturedLets(t *testing.T) {
	becomes(t, "one with one", 1, []impl.Fn{plain(local(0))}, "Line 7; Const r #i1; Box r ~r\n"+doing(1, 1)+"Drop r", let(0, one()), do(closure(1)))
	becomes(t, "with none, the first and the last", 3, []impl.Fn{plain(local(2), local(0))},
		"Line 7; Const r #nil; Const r+1 #nil; Const r+2 #nil; Box r ~r; Box r+2 ~r+2\n"+doing(1, 3)+dropping(0, 3), lets(0, 1, 2), do(closure(1)))
	becomes(t, "boxed in the order of the Refs", 3, []impl.Fn{plain(local(0), local(1), local(2))},
		"Line 7; Const r #nil; Const r+1 #nil; Const r+2 #nil; Box r ~r; Box r+1 ~r+1; Box r+2 ~r+2\n"+doing(1, 3)+dropping(0, 3), lets(2, 0, 1), do(closure(1)))
	becomes(t, "a box that is read by the next", 2, []impl.Fn{plain(local(0))},
		"Line 7; Const r #nil; Box r ~r; Line 7; Get r+1 r\n"+doing(1, 2)+dropping(0, 2), let(0), let(1, variable(0)), do(closure(1)))
}

func TestCompileSets(t *testing.T) {
	a := let(0, one())
	first := "Line 7; Const r #i1\n"
	becomes(t, "a variable", 1, nil, first+"Line 7; Const r+1 #i2; Move r ~r+1; Drop r", a, set(1, variable(0), number(2)))
	becomes(t, "a variable with a call", 1, nil, first+"Line 7; Const r+1 #i2; List r+2; Call r+1 ~r+1 ~r+2; First r+1 ~r+1; Move r ~r+1; Drop r",
		a, set(1, variable(0), call(number(2))))
	becomes(t, "an element", 0, nil, "Line 7; Const r #i1; Const r+1 #i2; Const r+2 #i3; Set ~r ~r+1 ~r+2", set(1, index(one(), number(2)), number(3)))
	becomes(t, "an element of an element", 1, nil, first+"Line 7; Move r+1 r; Const r+2 #i2; Index r+1 ~r+1 ~r+2; Const r+2 #i3; Const r+3 #i4; Set ~r+1 ~r+2 ~r+3; Drop r",
		a, set(1, index(index(variable(0), number(2)), number(3)), number(4)))
	becomes(t, "a captured variable", 1, []impl.Fn{plain(local(0))},
		"Line 7; Const r #i1; Box r ~r\n"+doing(1, 1)+"Line 7; Const r+1 #i2; Put r ~r+1; Drop r", a, do(closure(1)), set(1, variable(0), number(2)))
	wantIns(t, "an up", inFn(1, 0, false, nil, set(1, up(1), variable(0))), 1, "Line 7; Move r 0; UpPut 1 ~r")
	wantIns(t, "a parameter", inFn(2, 0, false, nil, set(1, variable(1), variable(0))), 1, "Line 7; Move r 0; Move 1 ~r")
	wantIns(t, "a captured parameter", inFn(2, 0, false, []impl.Fn{plain(local(1))}, set(1, variable(1), closure(2))), 1, "Box 1 ~1; Line 7; Fn r 2; Put 1 ~r")
	becomes(t, "one target and two expressions", 1, nil, first+"Line 7\n"+listed(2, 2, "")+picks(1, 1)+"Move r ~r+1; Drop r", a, set(1, variable(0), one(), one()))
	becomes(t, "an element and two expressions", 0, nil, "Line 7; Const r #i5; Const r+1 #i6\n"+listed(3, 2, "")+picks(2, 1)+"Set ~r ~r+1 ~r+2",
		set(1, index(number(5), number(6)), one(), one()))
}

// So many targets, of each kind and in each order, with fewer, as many and more expressions.
func TestCompileSetsOfSeveral(t *testing.T) {
	kinds := []string{"variable", "captured", "up", "index"}
	for code := range 4 * 4 * 4 {
		targets := []int{code % 4, code / 4 % 4, code / 16}
		for kids := 1; kids <= 4; kids++ {
			for _, last := range lasts[:2] {
				var list []tree
				parts, what := "", fmt.Sprint(kids, " expressions, last ", last.what, ":")
				tops := 2
				for _, k := range targets {
					what += " " + kinds[k]
					switch kinds[k] {
					case "variable":
						list = append(list, variable(0))
					case "captured":
						list = append(list, variable(1))
					case "up":
						list = append(list, up(1))
					case "index":
						list = append(list, index(number(int64(tops)), one()))
						parts += fmt.Sprintf("Const r+%d #i%d; Const r+%d #i1\n", tops, tops, tops+1)
						tops += 2
					}
				}
				stores, part := "", 2
				for j, k := range targets {
					value := fmt.Sprintf("~r+%d\n", tops+j)
					switch kinds[k] {
					case "variable":
						stores += "Move r " + value
					case "captured":
						stores += "Put r+1 " + value
					case "up":
						stores += "UpPut 1 " + value
					case "index":
						stores += fmt.Sprintf("Set ~r+%d ~r+%d %s", part, part+1, value)
						part += 2
					}
				}
				list = append(append(list, repeated(one(), kids-1)...), last.x)
				u := inFn(0, 2, false, []impl.Fn{plain(local(1))}, lets(0, 1), do(closure(2)), set(3, list...))
				wantIns(t, what, u, 1, "Line 7; Const r #nil; Const r+1 #nil; Box r+1 ~r+1\n"+doing(2, 2)+
					"Line 7\n"+parts+listed(tops+3, kids, last.listing)+picks(tops, 3)+stores+dropping(0, 2))
			}
		}
	}
}

func TestCompileDos(t *testing.T) {
	becomes(t, "no arguments", 0, nil, "Line 7; Const r #i1; List r+1; Call r ~r ~r+1; Drop r", do(one()))
	for kids := 1; kids <= 3; kids++ {
		for _, last := range lasts {
			list := append([]tree{number(2)}, append(repeated(one(), kids-1), last.x)...)
			becomes(t, fmt.Sprint(kids, " arguments, last ", last.what), 0, nil,
				"Line 7; Const r #i2\n"+listed(1, kids, last.listing)+"Call r ~r ~r+1; Drop r", do(list...))
		}
	}
}

func TestCompileIfs(t *testing.T) {
	becomes(t, "alone", 0, nil, "Line 7; Const r #nil; Unless ~r else; else:", stmt(impl.NIf, none(), block()))
	becomes(t, "with a block", 0, nil, "Line 7; Const r #nil; Unless ~r else\n"+"Line 7; List r; Return ~r; else:", stmt(impl.NIf, none(), block(giveBack())))
	becomes(t, "with two", 0, nil, "Line 7; Const r #nil; Unless ~r else; Line 7; List r; Return ~r; Jump end; else: Line 7; Const r #i1; Throw ~r; end:",
		stmt(impl.NIf, none(), block(giveBack()), block(throwing(one()))))
	becomes(t, "with two that are empty", 0, nil, "Line 7; Const r #nil; Unless ~r else; Jump end; else: end:", stmt(impl.NIf, none(), block(), block()))
	becomes(t, "with variables in both", 3, nil,
		"Line 7; Const r #nil; Line 7; Move r+1 r; Unless ~r+1 else; Line 7; Const r+1 #i1; Drop r+1; Jump end; else: Line 7; Const r+1 #i2; Drop r+1; end: Drop r",
		let(0), stmt(impl.NIf, variable(0), block(let(1, one())), block(let(2, number(2)))))
	becomes(t, "with captured ones", 2, []impl.Fn{plain(local(0)), plain(local(1))},
		"Line 7; Const r #nil; Unless ~r else; Line 7; Const r #nil; Box r ~r\n"+doing(1, 1)+"Drop r; Jump end; else: Line 7; Const r #nil; Box r ~r\n"+doing(2, 1)+"Drop r; end:",
		stmt(impl.NIf, none(), block(let(0), do(closure(1))), block(let(1), do(closure(2)))))
	becomes(t, "with a choice as its condition", 0, nil, "Line 7; Const r #nil; Unless r chosen; Drop r; Const r #i1; chosen: Unless ~r else; else:",
		stmt(impl.NIf, both(none(), one()), block()))
	becomes(t, "an if in an if", 0, nil, "Line 7; Const r #nil; Unless ~r else; Line 7; Const r #i1; Unless ~r else; else:",
		stmt(impl.NIf, none(), block(stmt(impl.NIf, one(), block()))))
}

// A NIf as the third of a NIf is a statement of its own, with a line.
func TestCompileChainsOfIfs(t *testing.T) {
	for _, many := range []int{2, 3, 10, impl.MaxNest - 1} {
		for _, last := range []bool{false, true} {
			var x tree
			var listing strings.Builder
			for i := range many {
				fmt.Fprintf(&listing, "Line %d; Const r #i%d; Unless ~r else%d\n", i+1, i, i)
				if i+1 < many || last {
					fmt.Fprintf(&listing, "Jump end; else%d:\n", i)
				} else {
					fmt.Fprintf(&listing, "else%d:\n", i)
				}
			}
			for i := many - 1; i >= 0; i-- {
				kids := []tree{number(int64(i)), block()}
				if i+1 < many {
					kids = append(kids, x)
				} else if last {
					kids = append(kids, block())
				}
				x = stmt(impl.NIf, kids...)
				x.node.Line = i + 1
			}
			wantIns(t, fmt.Sprint(many, " ifs, last with another block: ", last), text(0, x), 0, listing.String()+"end:")
		}
	}
}

func TestCompileWhiles(t *testing.T) {
	loop := while(do(one()))
	loop.node.Line = 12
	body := "Line 7; Const r #i1; List r+1; Call r ~r ~r+1; Drop r\n"
	becomes(t, "a body", 0, nil, "Line 12; begin: Tick; Const r #nil; Unless ~r exit\n"+body+"At 12; Jump begin; exit:", loop)
	becomes(t, "an empty body", 0, nil, "Line 7; begin: Tick; Const r #nil; Unless ~r exit; At 7; Jump begin; exit:", while())
	becomes(t, "a wide condition", 0, nil, "Line 7; begin: Tick; Const r #i1; Const r+1 #nil; Binary r 1 ~r ~r+1; Unless ~r exit; At 7; Jump begin; exit:",
		stmt(impl.NWhile, plus(one(), none()), block()))
	becomes(t, "a variable", 1, nil, "Line 7; begin: Tick; Const r #nil; Unless ~r exit; Line 7; Const r #i1; Drop r; At 7; Jump begin; exit:", while(let(0, one())))
	becomes(t, "a captured one", 1, []impl.Fn{plain(local(0))},
		"Line 7; begin: Tick; Const r #nil; Unless ~r exit; Line 7; Const r #i1; Box r ~r\n"+doing(1, 1)+"Drop r; At 7; Jump begin; exit:", while(let(0, one()), do(closure(1))))
	becomes(t, "one in another", 0, nil,
		"Line 7; begin: Tick; Const r #nil; Unless ~r exit; Line 7; begin2: Tick; Const r #nil; Unless ~r exit2; At 7; Jump begin2; exit2: At 7; Jump begin; exit:", while(while()))
}

func TestCompileFors(t *testing.T) {
	loop := stmt(impl.NFor, number(1), number(2), number(3), block(giveBack(variable(0)))).refs(0)
	loop.node.Line = 12
	begin := "Line 12; Const r #i1; Const r+1 #i2; Const r+2 #i3; For r; test: ForTest r exit; Tick; Move r+3 r\n"
	end := "Drop r+3; At 12; ForNext r test; exit: Drop r; Drop r+1; Drop r+2\n"
	becomes(t, "a body", 1, nil, begin+"Line 7; List r+4; Move r+5 r+3; Add r+4 ~r+5; Return ~r+4\n"+end, loop)
	loop.kids[3] = block()
	becomes(t, "an empty body", 1, nil, begin+end, loop)
	loop.kids[3] = block(let(1, variable(0)))
	becomes(t, "a variable in it", 2, nil, begin+"Line 7; Move r+4 r+3; Drop r+4\n"+end, loop)
	loop.kids[3] = block(do(closure(1)), throwing(variable(0)))
	becomes(t, "captured", 1, []impl.Fn{plain(local(0))}, begin+"Box r+3 ~r+3\n"+doing(1, 4)+"Line 7; Get r+4 r+3; Throw ~r+4\n"+end, loop)
	loop.kids[3] = block(let(1), do(closure(1)))
	becomes(t, "a variable in it captured", 2, []impl.Fn{plain(local(1))}, begin+"Line 7; Const r+4 #nil; Box r+4 ~r+4\n"+doing(1, 5)+"Drop r+4\n"+end, loop)
	loop.kids[3] = block()
	loop.kids[0], loop.kids[1], loop.kids[2] = call(one()), rest(), plus(one(), one())
	becomes(t, "other expressions", 1, nil, "Line 12; Const r #i1; List r+1; Call r ~r ~r+1; First r ~r; Pick r+1 0 0; Const r+2 #i1; Const r+3 #i1; Binary r+2 1 ~r+2 ~r+3\n"+
		"For r; test: ForTest r exit; Tick; Move r+3 r\n"+end, loop)
	becomes(t, "one in another", 2, nil,
		"Line 7; Const r #i1; Const r+1 #i1; Const r+2 #i1; For r; test: ForTest r exit; Tick; Move r+3 r\n"+
			"Line 7; Const r+4 #i1; Const r+5 #i1; Const r+6 #i1; For r+4; test2: ForTest r+4 exit2; Tick; Move r+7 r+4; Drop r+7; At 7; ForNext r+4 test2; exit2: Drop r+4; Drop r+5; Drop r+6\n"+
			"Drop r+3; At 7; ForNext r test; exit: Drop r; Drop r+1; Drop r+2", count(0, count(1)))
}

// With 1 to 4 variables, of which those whose bit is set are captured.
func TestCompileEachs(t *testing.T) {
	for vars := 1; vars <= 4; vars++ {
		for bits := range 1 << vars {
			var refs []int
			var ups []impl.Up
			picked := ""
			for j := range vars {
				v := vars - 1 - j
				refs = append(refs, v)
				picked += fmt.Sprintf("Pick r+%d r+2 %d\n", 3+j, j)
				if bits>>j&1 == 1 {
					ups = append(ups, local(v))
					picked += fmt.Sprintf("Box r+%d ~r+%d\n", 3+j, 3+j)
				}
			}
			x := each(refs, do(closure(1)))
			x.node.Line = 12
			becomes(t, fmt.Sprintf("%d variables, captured %b", vars, bits), vars, []impl.Fn{plain(ups...)},
				"Line 12; Const r #i1; Each r; test: EachNext r exit r+2\n"+picked+"Drop r+2\n"+doing(1, 3+vars)+
					dropping(2, vars+1)+"At 12; Jump test; exit: Drop r; Drop r+1", x)
		}
	}
	becomes(t, "variables in it", 3, nil, "Line 7; Const r #i1; Each r; test: EachNext r exit r+2; Pick r+3 r+2 0; Drop r+2\n"+
		"Line 7; Move r+4 r+3; Line 7; Const r+5 #nil; Drop r+4; Drop r+5; Drop r+2; Drop r+3; At 7; Jump test; exit: Drop r; Drop r+1",
		each([]int{0}, let(1, variable(0)), let(2)))
	becomes(t, "a call is gone through", 1, nil, "Line 7; Const r #i1; List r+1; Call r ~r ~r+1; First r ~r; Each r; test: EachNext r exit r+2; Pick r+3 r+2 0; Drop r+2; Drop r+2; Drop r+3; At 7; Jump test; exit: Drop r; Drop r+1",
		stmt(impl.NEach, call(one()), block()).refs(0))
	becomes(t, "one in another", 2, nil, "Line 7; Const r #i1; Each r; test: EachNext r exit r+2; Pick r+3 r+2 0; Drop r+2\n"+
		"Line 7; Const r+4 #i1; Each r+4; test2: EachNext r+4 exit2 r+6; Pick r+7 r+6 0; Drop r+6; Drop r+6; Drop r+7; At 7; Jump test2; exit2: Drop r+4; Drop r+5\n"+
		"Drop r+2; Drop r+3; At 7; Jump test; exit: Drop r; Drop r+1", each([]int{0}, each([]int{1})))
}

func TestCompileReturns(t *testing.T) {
	becomes(t, "nothing", 0, nil, "Line 7; List r; Return ~r", giveBack())
	for kids := 1; kids <= 4; kids++ {
		for _, last := range lasts {
			list := append(repeated(one(), kids-1), last.x)
			becomes(t, fmt.Sprint(kids, " values, last ", last.what), 0, nil, "Line 7\n"+listed(0, kids, last.listing)+"Return ~r", giveBack(list...))
		}
	}
	becomes(t, "a call and a rest ahead of the last", 0, nil,
		"Line 7; List r; Const r+1 #i1; List r+2; Call r+1 ~r+1 ~r+2; First r+1 ~r+1; Add r ~r+1; Pick r+1 0 0; Add r ~r+1; Const r+1 #nil; Add r ~r+1; Return ~r",
		giveBack(call(one()), rest(), none()))
	becomes(t, "behind a variable, and something behind it", 2, nil, "Line 7; Const r #nil; Line 7; List r+1; Move r+2 r; Add r+1 ~r+2; Return ~r+1; Line 7; Const r+1 #nil; Drop r; Drop r+1",
		let(0), giveBack(variable(0)), let(1))
	becomes(t, "a throw", 0, nil, "Line 7; Const r #i1; Throw ~r", throwing(one()))
	becomes(t, "a throw of a call, and something behind it", 1, nil, "Line 7; Const r #i1; List r+1; Call r ~r ~r+1; First r ~r; Throw ~r; Line 7; Const r #nil; Drop r", throwing(call(one())), let(0))
}

func TestCompileTries(t *testing.T) {
	becomes(t, "empty", 2, nil, "Line 7; Try handler r; EndTry; Jump end; handler: Drop r; Drop r+1; end:", catch(0, 1, block(), block()))
	becomes(t, "statements in both", 2, nil,
		"Line 7; Try handler r; Line 7; Const r #i1; Throw ~r; EndTry; Jump end; handler: Line 7; Move r+2 r+1; Throw ~r+2; Drop r; Drop r+1; end:",
		catch(0, 1, block(throwing(one())), block(throwing(variable(1)))))
	becomes(t, "variables in both", 4, nil,
		"Line 7; Try handler r; Line 7; Const r #i1; Drop r; EndTry; Jump end; handler: Line 7; Move r+2 r; Drop r+2; Drop r; Drop r+1; end:",
		catch(0, 1, block(let(2, one())), block(let(3, variable(0)))))
	for bits := range 4 {
		boxes, ups := "", []impl.Up(nil)
		for j := range 2 {
			if bits>>j&1 == 1 {
				boxes += fmt.Sprintf("Box r+%d ~r+%d\n", j, j)
				ups = append([]impl.Up{local(1 - j)}, ups...)
			}
		}
		becomes(t, fmt.Sprintf("captured %b", bits), 2, []impl.Fn{plain(ups...)},
			"Line 7; Try handler r; EndTry; Jump end; handler:\n"+boxes+doing(1, 2)+"Drop r; Drop r+1; end:", catch(1, 0, block(), block(do(closure(1)))))
	}
	becomes(t, "captured in the first block", 3, []impl.Fn{plain(local(2))},
		"Line 7; Try handler r; Line 7; Const r #nil; Box r ~r\n"+doing(1, 1)+"Drop r; EndTry; Jump end; handler: Drop r; Drop r+1; end:",
		catch(0, 1, block(let(2), do(closure(1))), block()))
	becomes(t, "one in the first block of another", 4, nil,
		"Line 7; Try handler r; Line 7; Try handler2 r; EndTry; Jump end2; handler2: Drop r; Drop r+1; end2: EndTry; Jump end; handler: Drop r; Drop r+1; end:",
		catch(0, 1, block(catch(2, 3, block(), block())), block()))
	becomes(t, "one in the second block of another", 4, nil,
		"Line 7; Try handler r; EndTry; Jump end; handler: Line 7; Try handler2 r+2; EndTry; Jump end2; handler2: Drop r+2; Drop r+3; end2: Drop r; Drop r+1; end:",
		catch(0, 1, block(), block(catch(2, 3, block(), block()))))
}

func TestCompileDefers(t *testing.T) {
	becomes(t, "no arguments", 0, nil, "Scope r; Line 7; Const r #i1; List r+1; Defer ~r ~r+1; Leave", deferred(one()))
	for kids := 1; kids <= 3; kids++ {
		for _, last := range lasts {
			list := append([]tree{number(2)}, append(repeated(one(), kids-1), last.x)...)
			becomes(t, fmt.Sprint(kids, " arguments, last ", last.what), 0, nil,
				"Scope r; Line 7; Const r #i2\n"+listed(1, kids, last.listing)+"Defer ~r ~r+1; Leave", deferred(list...))
		}
	}
}

// The lines of statements are theirs; a NBlock's own is nowhere to be seen.
func TestCompileLines(t *testing.T) {
	at := func(line int, x tree) tree { x.node.Line = line; return x }
	becomes(t, "lines", 1, nil,
		"Line 3; Const r #nil; Line 100000; begin: Tick; Const r+1 #nil; Unless ~r+1 exit; Line 1; Const r+1 #nil; Throw ~r+1; At 100000; Jump begin; exit: Drop r",
		at(3, let(0)), at(9, block(at(100000, stmt(impl.NWhile, none(), at(8, block(at(1, throwing(none())))))))))
}
