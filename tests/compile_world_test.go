package tests

import (
	"fmt"
	"hash/fnv"
	"strings"

	"loop.example/draft/impl"
)

// toyWorld is one in which a unit and its code can both be run, to see whether the same happens. What an operation answers, and whether it throws, hangs on all that was told ahead of it: two runs that differ in one thing differ in all that comes behind.
type toyWorld struct {
	told  []string
	state uint64
	left  int
	made  int
	fns   []*toyFn
	// open tell what can be seen of the calls that are open, run calls a fn.
	open []func() string
	run  func(fn *toyFn, args []thing) []thing
}

// thing is a value of that world; num counts where it is a loop's.
type thing struct {
	text string
	num  int
	fn   *toyFn
}

type toyFn struct {
	fn  int
	ups []*thing
}

// thrown is what a panic carries when something is thrown, outOfTime when the run has told enough.
type thrown struct{ what thing }

type outOfTime struct{}

const toyDepth = 5

func newWorld(seed uint64, events int) *toyWorld { return &toyWorld{state: seed, left: events} }

func (w *toyWorld) tell(words ...any) {
	event := fmt.Sprint(words...)
	w.told = append(w.told, event)
	h := fnv.New64a()
	fmt.Fprint(h, w.state, event)
	w.state = h.Sum64()
	if w.left--; w.left < 0 {
		panic(outOfTime{})
	}
}

// show tells something and all that can be seen meanwhile.
func (w *toyWorld) show(words ...any) {
	var b strings.Builder
	fmt.Fprint(&b, words...)
	for _, seen := range w.open {
		b.WriteString(" | " + seen())
	}
	w.tell(b.String())
}

func (w *toyWorld) draw(n int) int {
	w.state = w.state*6364136223846793005 + 1442695040888963407
	return int(w.state >> 33 % uint64(n))
}

func (w *toyWorld) value() thing {
	switch kind := w.draw(7); {
	case kind == 0:
		return thing{text: "nil"}
	case kind == 1:
		return thing{text: "false"}
	case kind < 4 && len(w.fns) > 0:
		fn := w.draw(len(w.fns))
		return thing{text: fmt.Sprint("fn#", fn), fn: w.fns[fn]}
	}
	return thing{text: fmt.Sprint("i", w.draw(5))}
}

func (w *toyWorld) values(most int) (list []thing) {
	for range w.draw(most + 1) {
		list = append(list, w.value())
	}
	return list
}

func isTrue(x thing) bool { return x.text != "nil" && x.text != "false" }

// may tells of something that can fail.
func (w *toyWorld) may(words ...any) {
	w.tell(words...)
	if w.draw(12) == 0 {
		panic(thrown{thing{text: fmt.Sprint("error", len(w.told))}})
	}
}

func (w *toyWorld) operation(words ...any) thing {
	w.may(words...)
	return w.value()
}

func (w *toyWorld) newTable() thing {
	w.made++
	return thing{text: fmt.Sprint("table#", w.made)}
}

func (w *toyWorld) newFn(fn int, ups []*thing) thing {
	w.fns = append(w.fns, &toyFn{fn, ups})
	w.tell("made fn ", fn, " ", len(ups))
	return thing{text: fmt.Sprint("fn#", len(w.fns)-1), fn: w.fns[len(w.fns)-1]}
}

func textOf(list []thing) string {
	var out []string
	for _, x := range list {
		out = append(out, x.text)
	}
	return "(" + strings.Join(out, " ") + ")"
}

// call calls something; what is no fn stands for one that was made ahead, now and then.
func (w *toyWorld) call(f thing, args []thing) []thing {
	w.show("call ", f.text, textOf(args))
	if len(w.fns) > 0 && f.fn == nil && w.draw(4) > 0 {
		f.fn = w.fns[w.draw(len(w.fns))]
	}
	if f.fn == nil || len(w.open) > toyDepth {
		w.may("answered")
		return w.values(3)
	}
	return w.run(f.fn, args)
}

// entered is around the body of a fn while it runs.
func (w *toyWorld) entered(seen func() string, body func() []thing) (out []thing) {
	w.open = append(w.open, seen)
	// A fn that throws is left too.
	defer func(depth int) { w.open = w.open[:depth] }(len(w.open) - 1)
	w.show("enter")
	out = body()
	w.tell("back ", textOf(out))
	return out
}

// thrownBy runs something and answers what it throws.
func thrownBy(run func()) (err *thrown) {
	defer func() {
		switch x := recover().(type) {
		case nil:
		case thrown:
			err = &x
		default:
			panic(x)
		}
	}()
	run()
	return nil
}

// trace tells that something was caught, and answers where.
func (w *toyWorld) trace(err thrown) thing {
	w.tell("caught ", err.what.text)
	return thing{text: fmt.Sprint("trace", len(w.told))}
}

// counting is what a NFor goes by: from where, up to where, by how much.
func (w *toyWorld) counting(a, b, c thing) [3]thing {
	w.may("for ", a.text, b.text, c.text)
	var out [3]thing
	for i, n := range []int{w.draw(3), w.draw(4), 1 + w.draw(2)} {
		out[i] = thing{text: fmt.Sprint("i", n), num: n}
	}
	return out
}

func counted(a, c thing) thing {
	return thing{text: fmt.Sprint("i", a.num+c.num), num: a.num + c.num}
}

func (w *toyWorld) eachBegin(x thing) thing {
	w.may("each ", x.text)
	return thing{text: "place"}
}

// eachTurn is the values of the next turn, if there is one.
func (w *toyWorld) eachTurn(x, place thing) ([]thing, bool) {
	w.show("turn of ", x.text, " ", place.num)
	if place.num > 3 || w.draw(3) == 0 {
		return nil, false
	}
	return w.values(4), true
}

// toyCall is a call that is kept until a block is left.
type toyCall struct {
	line int
	f    thing
	args []thing
}

// runKept makes the kept calls, the last first; when one throws that counts, in place of what was thrown ahead.
func (w *toyWorld) runKept(calls []toyCall, line *int, err *thrown) *thrown {
	for i := len(calls) - 1; i >= 0; i-- {
		*line = calls[i].line
		w.tell("kept call")
		if now := thrownBy(func() { w.call(calls[i].f, calls[i].args) }); now != nil {
			err = now
		}
	}
	return err
}

// ran is all that a run has told, and what it came to.
func (w *toyWorld) ran() (told []string) {
	defer func() {
		if x := recover(); x != nil {
			if _, late := x.(outOfTime); !late {
				panic(x)
			}
			told = append(w.told, "out of time")
		}
	}()
	var out []thing
	err := thrownBy(func() { out = w.run(&toyFn{}, []thing{{text: "arg0"}, {text: "arg1"}}) })
	if err != nil {
		return append(w.told, "thrown "+err.what.text)
	}
	return append(w.told, "given "+textOf(out))
}

// seenText is how a call is seen: its fn, its line, and its variables with their values.
func seenText(fn, line int, vars []string) string {
	return fmt.Sprint("fn ", fn, " line ", line, " ", strings.Join(vars, " "))
}

func constText(x impl.Value) string {
	switch x.Kind {
	case impl.KNil:
		return "nil"
	case impl.KBool:
		return fmt.Sprint(x.Num == 1)
	case impl.KInt:
		return fmt.Sprint("i", x.Num)
	case impl.KFlt:
		return fmt.Sprint("f", x.Flt)
	case impl.KStr:
		return "s" + x.Str
	}
	return fmt.Sprint("b", x.Num)
}
