package tests

import (
	"fmt"
	"slices"
	"strings"

	"loop.example/loom/impl"
)

// A second reading of 4.10, with 4.1 to 4.9 where it leans on them: moves as
// changes of the plain data that chapter 3 lists, rule by rule. The machines
// that Stand answers are held against it.

type mover struct {
	c    impl.Code
	q    impl.Quick
	in   impl.Input
	m    impl.Machine
	peak int // the greatest number of slots that there were
}

// Panics: the run is over; something was thrown, and the move is done.
type (
	moverOver struct{ code int }
	moverStop struct{}
)

func newMover(c impl.Code, in impl.Input, pace int) *mover {
	return &mover{c: c, q: plainPrepare(c), in: in, m: plainBegin(c, in, pace)}
}

// move does one move; it does nothing when the run is over.
func (x *mover) move() {
	if x.m.Over {
		return
	}
	x.m.Moves++
	if x.m.Pace > 0 && x.m.Due >= x.m.Pace {
		plainGiveBack(&x.m)
	}
	defer func() {
		switch p := recover().(type) {
		case nil, moverStop:
		case moverOver:
			rep := x.m.Rep
			rep.Code = p.code
			x.m = impl.Machine{Pace: x.m.Pace, Hits: x.m.Hits, Misses: x.m.Misses, Moves: x.m.Moves, Rep: rep, Over: true}
		default:
			panic(p)
		}
	}()
	x.rules()
}

func (x *mover) task() *impl.Task { return &x.m.Tasks[x.m.Cur] }

// top is the innermost frame of the running task, nil when it has none.
func (x *mover) top() *impl.Frame {
	t := x.task()
	if len(t.Frames) == 0 {
		return nil
	}
	return &t.Frames[len(t.Frames)-1]
}

func (x *mover) push(f impl.Frame) { x.task().Frames = append(x.task().Frames, f) }

func (x *mover) pop() { x.task().Frames = x.task().Frames[:len(x.task().Frames)-1] }

func (x *mover) give(vals ...impl.Value) { x.m.Has, x.m.Got = true, slices.Clone(vals) }

func (x *mover) takeGiven() []impl.Value {
	vals := x.m.Got
	x.m.Has, x.m.Got = false, nil
	return vals
}

func (x *mover) takeWay() impl.Way {
	way := x.m.Way
	x.m.Way = impl.Way{}
	return way
}

func (x *mover) rules() {
	f := x.top()
	switch {
	case f == nil:
		x.rule1()
	case x.m.Way.Kind != 0:
		x.rule2(f)
	case f.Kind == 3:
		x.rule3(f)
	case f.Kind == 2:
		vals := x.takeGiven()
		first := argument(vals, 0)
		x.pop()
		switch f.Then {
		case 1:
			x.give(first)
		case 2:
			x.give(valBool(valTruth(first)))
		case 3:
			x.give(valBool(!valTruth(first)))
		case 4:
			x.give()
		}
	case f.Leaving:
		x.rule5(f)
	default:
		x.rule6(f)
	}
}

func (x *mover) rule1() {
	way, given := x.takeWay(), x.takeGiven()
	if x.m.Cur == 0 {
		if way.Kind == 2 {
			x.m.Rep.Error, x.m.Rep.Trace = x.told(way.Vals[0]), way.Trace
			panic(moverOver{1})
		}
		for _, v := range given {
			x.m.Rep.Vals = append(x.m.Rep.Vals, valText(v))
		}
		panic(moverOver{0})
	}
	t := x.task()
	list, why := append([]impl.Value{valBool(true)}, given...), "done"
	if way.Kind == 2 {
		list, why = []impl.Value{valBool(false), way.Vals[0], text(way.Trace)}, "error"
	}
	if way.Kind == 3 {
		list, why = []impl.Value{valBool(true)}, "gone"
		if len(t.Dropped) > 0 {
			list = t.Dropped
		}
	}
	waiter := t.Waiter
	*t = impl.Task{State: 4, Waiter: -1}
	x.turn(waiter, why)
	x.give(list...)
}

func (x *mover) turn(to int, why string) {
	x.m.Cur = to
	x.task().State = 2
	x.rec(7, 0, 0, why)
}

func (x *mover) rule2(f *impl.Frame) {
	way := x.takeWay()
	x.takeGiven()
	switch {
	case f.Kind == 3 && way.Kind == 2:
		x.rec(5, 0, 0, x.told(way.Vals[0]))
		x.give()
	case f.Kind != 1:
		x.pop()
		x.m.Way = way
	case !f.Leaving:
		f.Leaving, f.One, f.Way, f.Saved = true, false, way, f.Line
	case f.Way.Kind == 3:
		x.task().Dropped = []impl.Value{valBool(false), way.Vals[0], text(way.Trace)}
	default:
		f.One, f.Way = false, way
	}
}

func (x *mover) rule3(f *impl.Frame) {
	x.takeGiven()
	if !f.Round {
		vals := x.lastWords()
		if len(vals) == 0 {
			x.m.Live, x.m.Since = x.cells(x.reached()), 0
			x.pop()
			x.give(number(int64(x.m.Live)))
			return
		}
		f.Round, f.Step, f.Vals = true, 0, vals
	}
	if 2*f.Step == len(f.Vals) {
		f.Round, f.Step, f.Vals = false, 0, nil
		return
	}
	me, fn := f.Vals[2*f.Step], f.Vals[2*f.Step+1]
	f.Step++
	x.rec(8, 0, 0, "")
	x.call(fn, []impl.Value{me})
}

func (x *mover) rule5(f *impl.Frame) {
	x.takeGiven()
	f.Line = f.Saved
	if len(f.Fences) == 0 {
		f.Limit, f.Line = x.c.Protos[f.Proto].Params, 0
		if f.Self >= 0 {
			x.rec(3, f.Proto, 0, []string{"", "", "error", "gone"}[f.Way.Kind])
		}
		way := f.Way
		x.pop()
		if way.Kind == 1 {
			x.give(way.Vals...)
		} else {
			x.m.Way = way
		}
		return
	}
	g := f.Fences[len(f.Fences)-1]
	if g.Try {
		f.Fences = f.Fences[:len(f.Fences)-1]
		if way := f.Way; way.Kind == 2 {
			f.Leaving, f.Saved, f.Way, f.Limit = false, 0, impl.Way{}, -1
			f.At, f.Line = g.Handler, g.Line
			clear(f.Regs[g.Keep:])
			x.rec(5, f.Proto, f.Line, x.told(way.Vals[0]))
			f.Regs[g.Keep] = impl.Reg{Type: 1, Value: way.Vals[0]}
			f.Regs[g.Keep+1] = impl.Reg{Type: 1, Value: text(way.Trace)}
		}
		return
	}
	if !f.One {
		f.Limit = g.Keep
		clear(f.Regs[g.Keep:])
	}
	if n := len(g.Defers); n > 0 {
		kept := g.Defers[n-1]
		f.Fences[len(f.Fences)-1].Defers = g.Defers[:n-1]
		f.Line = kept.Line
		x.call(kept.Vals[0], kept.Vals[1:])
		return
	}
	f.Fences = f.Fences[:len(f.Fences)-1]
	if f.One {
		f.Leaving, f.One, f.Saved = false, false, 0
		f.At++
	}
}

func (x *mover) rule6(f *impl.Frame) {
	if !x.m.Has {
		x.quick(f)
	}
	f = x.top()
	if !x.m.Has || f == nil || f.Kind != 1 || f.Leaving {
		return
	}
	list := x.takeGiven()
	first := argument(list, 0)
	n := x.c.Protos[f.Proto].Ins[f.At]
	switch n.Op {
	case impl.IIndex, impl.IUnary, impl.IBinary:
		f.Regs[n.A] = impl.Reg{Type: 1, Value: first}
	case impl.ICall:
		f.Regs[n.A] = impl.Reg{Type: 3, List: list}
	case impl.IEach:
		f.Regs[n.A] = impl.Reg{Type: 1, Value: first}
		x.eachOf(f, n.A)
	case impl.IEachNext:
		if first.Kind == 0 {
			f.At = n.B
			return
		}
		f.Regs[n.C] = impl.Reg{Type: 3, List: list}
	}
	f.At++
}

// eachOf goes on with what is in a register, which is no table or came from a handler.
func (x *mover) eachOf(f *impl.Frame, r int) {
	v := f.Regs[r].Value
	x.throwIf(v.Kind != impl.KFn && v.Kind != impl.KBuiltin, impl.ErrType)
	f.Regs[r+1] = impl.Reg{Type: 1}
}

// Records, ticks, errors.

func (x *mover) rec(kind, fn, line int, txt string) {
	if len(x.m.Rep.Recs) == 100000 {
		panic(moverOver{2})
	}
	x.m.Rep.Recs = append(x.m.Rep.Recs, impl.Rec{Kind: kind, Task: x.m.Cur, Fn: fn, Line: line, Text: txt})
}

// open are the numbers of the frames of a task that are open calls, the innermost first.
func open(t impl.Task) []int {
	var out []int
	for i := len(t.Frames) - 1; i >= 0; i-- {
		if t.Frames[i].Kind == 1 {
			out = append(out, i)
		}
	}
	return out
}

// at is the Fn and the line at hand.
func (x *mover) at() (int, int) {
	for _, i := range open(*x.task()) {
		return x.task().Frames[i].Proto, x.task().Frames[i].Line
	}
	return 0, 0
}

func (x *mover) recAt(kind int, txt string) {
	fn, line := x.at()
	x.rec(kind, fn, line, txt)
}

func (x *mover) tick() {
	if x.m.Rep.Ticks == x.in.Ticks {
		panic(moverOver{2})
	}
	x.m.Rep.Ticks++
}

func (x *mover) told(v impl.Value) string {
	if v.Kind == 5 {
		if c := tabGet(x.m.Slots[v.Ref].Table, text("code")); c.Kind == 2 {
			return fmt.Sprint("error ", c.Num)
		}
	}
	return valText(v)
}

func (x *mover) throwValue(v impl.Value) {
	var calls []string
	for _, i := range open(*x.task()) {
		f := x.task().Frames[i]
		name := x.c.Protos[f.Proto].Name
		if len(name) == 0 {
			name = "fn"
		}
		calls = append(calls, fmt.Sprint(name, ":", f.Line))
	}
	x.recAt(4, x.told(v))
	x.m.Way = impl.Way{Kind: 2, Vals: []impl.Value{v}, Trace: strings.Join(calls, " ")}
	panic(moverStop{})
}

func (x *mover) throwIf(bad bool, code int) {
	if !bad {
		return
	}
	_, line := x.at()
	at := x.born(impl.Slot{Kind: 1, Of: -1, Table: impl.Table{Turns: 2, Pairs: []impl.Pair{
		{Key: text("code"), Val: number(int64(code)), Turn: 1},
		{Key: text("line"), Val: number(int64(line)), Turn: 2},
	}}})
	x.newVer(at)
	x.throwValue(impl.Value{Kind: 5, Ref: at})
}

// born puts a thing into the least free slot, or behind all.
func (x *mover) born(s impl.Slot) int {
	x.m.Births++
	x.m.Due++
	s.Born = x.m.Births
	for i := range x.m.Slots {
		if x.m.Slots[i].Kind == 0 {
			x.m.Slots[i] = s
			return i
		}
	}
	x.m.Slots = append(x.m.Slots, s)
	x.peak = max(x.peak, len(x.m.Slots))
	return len(x.m.Slots) - 1
}

func (x *mover) newVer(at int) {
	x.m.Vers++
	x.m.Slots[at].Ver = x.m.Vers
}

func (x *mover) cellsFor(n int) {
	x.throwIf(x.m.Live+x.m.Since+n > x.in.Cells, impl.ErrCells)
	x.m.Since += n
	x.m.Rep.Made += n
}

func (x *mover) raw(v, k, w impl.Value) {
	old := x.m.Slots[v.Ref].Table
	_, ok := valKey(k)
	x.throwIf(!ok, impl.ErrKey)
	there := tabAt(old, k) >= 0
	x.throwIf(!there && w.Kind != 0 && len(old.Pairs) == 500, impl.ErrLong)
	if !there && w.Kind != 0 {
		x.cellsFor(1)
	}
	x.m.Slots[v.Ref].Table = tabPut(old, k, w)
	if there == (w.Kind == 0) { // one goes, or one comes
		x.newVer(v.Ref)
	}
}

// Calls and handlers.

func (x *mover) call(callee impl.Value, args []impl.Value) {
	for handlers := 0; ; handlers++ {
		x.tick()
		if callee.Kind == impl.KFn {
			x.callFn(callee, args)
			return
		}
		if callee.Kind == impl.KBuiltin {
			x.builtin(int(callee.Num), args)
			return
		}
		h := x.handler(callee, "call")
		x.throwIf(h.Kind == 0, impl.ErrCall)
		x.throwIf(handlers+1 > 20, impl.ErrLoop)
		callee, args = h, append([]impl.Value{callee}, args...)
	}
}

func (x *mover) callFn(fn impl.Value, args []impl.Value) {
	count := 0
	for t := x.m.Cur; t != -1; t = x.m.Tasks[t].Waiter {
		count += len(open(x.m.Tasks[t]))
	}
	x.throwIf(count >= x.in.Depth, impl.ErrDepth)
	n := x.m.Slots[fn.Ref].Proto
	p := x.c.Protos[n]
	f := impl.Frame{Kind: 1, Proto: n, Self: fn.Ref, Regs: make([]impl.Reg, p.Regs), Limit: -1}
	for i := range p.Params {
		f.Regs[i] = impl.Reg{Type: 1, Value: argument(args, i)}
	}
	if p.Rest {
		f.Regs[p.Params].Type = 3
		for i, v := range args {
			if i >= p.Params {
				f.Regs[p.Params].List = append(f.Regs[p.Params].List, v)
			}
		}
	}
	x.push(f)
	x.rec(2, n, p.Line, p.Name)
}

func (x *mover) handler(v impl.Value, name string) impl.Value {
	if v.Kind != 5 || x.m.Slots[v.Ref].Of < 0 {
		return impl.Value{}
	}
	return tabGet(x.m.Slots[x.m.Slots[v.Ref].Of].Table, text(name))
}

func (x *mover) callHandler(then int, h impl.Value, args ...impl.Value) {
	x.push(impl.Frame{Kind: 2, Then: then})
	x.call(h, args)
}

func (x *mover) read(v, k impl.Value) {
	for made := 0; ; made++ {
		x.throwIf(v.Kind != 5, impl.ErrIndex)
		got := tabGet(x.m.Slots[v.Ref].Table, k)
		h := x.handler(v, "index")
		switch {
		case got.Kind != 0:
			x.give(got)
			return
		case h.Kind == 0:
			x.give(h)
			return
		case h.Kind != 5:
			x.callHandler(1, h, v, k)
			return
		}
		x.throwIf(made == 20, impl.ErrLoop)
		v = h
	}
}

func (x *mover) write(v, k, w impl.Value) {
	for made := 0; ; made++ {
		x.throwIf(v.Kind != 5, impl.ErrIndex)
		_, ok := valKey(k)
		x.throwIf(!ok, impl.ErrKey)
		h := x.handler(v, "setindex")
		switch {
		case tabAt(x.m.Slots[v.Ref].Table, k) >= 0 || h.Kind == 0:
			x.raw(v, k, w)
			x.give()
			return
		case h.Kind != 5:
			x.callHandler(4, h, v, k, w)
			return
		}
		x.throwIf(made == 20, impl.ErrLoop)
		v = h
	}
}

// operate gives what two values make, or calls a handler; it answers false when it calls.
func (x *mover) operate(op int, a, b impl.Value) bool {
	code, v := 0, impl.Value{}
	h, then := impl.Value{}, 1
	either := func(name string) impl.Value {
		if h := x.handler(a, name); h.Kind != 0 {
			return h
		}
		return x.handler(b, name)
	}
	switch {
	case op == 13 || op == 14:
		code, v = valBinary(op, a, b)
		if a.Kind == 5 && b.Kind == 5 && a.Ref != b.Ref {
			h, then = either("eq"), op-11
		}
	case op >= 15 && valCompare(a, b) == 3:
		code, then = 1, 2
		if op >= 17 {
			a, b = b, a
		}
		h = either([]string{"lt", "le"}[(op-15)%2])
	default:
		if op == 12 {
			x.tick()
		}
		code, v = valBinary(op, a, b)
		if code == 1 {
			h = either(operationNames()[op])
		}
	}
	if h.Kind != 0 {
		x.callHandler(then, h, a, b)
		return false
	}
	x.throwIf(code != 0, code)
	x.give(v)
	return true
}

func (x *mover) unary(op int, v impl.Value) {
	code, got := valUnary(op, v)
	if op != 21 && code == 1 {
		if h := x.handler(v, operationNames()[op]); h.Kind != 0 {
			x.callHandler(1, h, v)
			return
		}
		if op == 22 && v.Kind == 5 {
			code, got = 0, number(int64(tabLength(x.m.Slots[v.Ref].Table)))
		}
	}
	x.throwIf(code != 0, code)
	x.give(got)
}
