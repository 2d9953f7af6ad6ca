package tests

import (
	"fmt"
	"slices"
	"strings"

	"loop.example/loom/impl"
)

// A second reading of 4.1 to 4.9: plain stepping of a code, on a store in
// which nothing is given back. There are no moves and no frames: calls are
// calls, what is thrown is a panic, and each task is a goroutine of which one
// runs at a time. The reports of machines are held against it, and the views
// of chapter 6.

type stepTable struct {
	table impl.Table
	kind  *stepTable
	ref   int
	wants bool
}

type stepBox struct{ v impl.Value }

type stepFn struct {
	proto int
	ups   []*stepBox
}

type stepReg struct {
	typ  int
	v    impl.Value
	box  *stepBox
	list []impl.Value
}

type stepDefer struct {
	line int
	vals []impl.Value
}

type stepGuard struct {
	try           bool
	keep, handler int
	line          int
	defers        []stepDefer
}

type stepCall struct {
	proto  int
	fn     impl.Value // nil for the text
	at     int
	line   int
	regs   []stepReg
	guards []*stepGuard
	way    stepWay
	hidden int // how many of the last registers cannot be seen
}

// stepWay is how a call is left: "return", "error", "gone"; "" is not at all.
type stepWay struct {
	kind  string
	vals  []impl.Value
	trace string
}

type stepTask struct {
	state    string
	fn       impl.Value
	calls    []*stepCall
	waiter   int
	giving   bool
	dropped  []impl.Value
	speaking [][]impl.Value // the last words of each collect that is going on
	wake     chan stepWake
	asleep   bool // its goroutine waits to be resumed
}

// stepWake is what is handed over with the turn.
type stepWake struct {
	vals             []impl.Value
	gone, over, kill bool
}

// What a call is left by, as panics.
type (
	stepThrow struct {
		v     impl.Value
		trace string
	}
	stepGone struct{}
	stepOver struct{}
	stepKill struct{}
)

type stepRun struct {
	c           impl.Code
	in          impl.Input
	rep         impl.Report
	read        int
	live, since int
	tables      []*stepTable
	fns         []*stepFn
	tasks       []*stepTask
	cur         int
	looks       bool
	views       []impl.View // one for each record, when it looks
}

// plainRun is the report of stepping a verified code plainly on a valid input.
func plainRun(c impl.Code, in impl.Input) impl.Report {
	s := &stepRun{c: c, in: in}
	s.run()
	return s.rep
}

// plainViews are the report and what stands at each of its records.
func plainViews(c impl.Code, in impl.Input) (impl.Report, []impl.View) {
	s := &stepRun{c: c, in: in, looks: true}
	s.run()
	return s.rep, s.views
}

func (s *stepRun) run() {
	s.tasks = []*stepTask{{state: "running", waiter: -1, wake: make(chan stepWake)}}
	s.text()
	for _, t := range s.tasks[1:] {
		if t.asleep {
			t.wake <- stepWake{kill: true}
		}
	}
}

func (s *stepRun) text() {
	defer func() {
		switch x := recover().(type) {
		case nil:
		case stepOver:
			s.rep.Code = 2
		case stepThrow:
			s.rep.Code, s.rep.Error, s.rep.Trace = 1, s.told(x.v), x.trace
		default:
			panic(x)
		}
	}()
	var args []impl.Value
	for _, a := range s.in.Args {
		args = append(args, text(a))
	}
	for _, v := range s.runCall(s.newCall(0, impl.Value{}, args)) {
		s.rep.Vals = append(s.rep.Vals, valText(v))
	}
}

func (s *stepRun) task() *stepTask { return s.tasks[s.cur] }

func (s *stepRun) tick() {
	if s.rep.Ticks >= s.in.Ticks {
		panic(stepOver{})
	}
	s.rep.Ticks++
}

func (s *stepRun) rec(kind, fn, line int, txt string) {
	if len(s.rep.Recs) >= 100000 {
		panic(stepOver{})
	}
	s.rep.Recs = append(s.rep.Recs, impl.Rec{Kind: kind, Task: s.cur, Fn: fn, Line: line, Text: txt})
	if s.looks {
		s.views = append(s.views, s.view())
	}
}

// view is what chapter 6 shows of the running task.
func (s *stepRun) view() impl.View {
	v := impl.View{Ok: true, Task: s.cur}
	for _, c := range s.task().calls {
		v.Calls = append([]impl.Open{{Fn: c.proto, Line: c.line, Vars: c.vars(s.c.Protos[c.proto])}}, v.Calls...)
	}
	return v
}

func (c *stepCall) vars(p impl.Proto) []impl.Shown {
	var vars []impl.Shown
	for _, n := range p.Named {
		seen := n.From <= c.at && c.at < n.To && n.Reg < len(c.regs)-c.hidden
		switch r := c.regs[n.Reg]; {
		case seen && r.typ == impl.TValue:
			vars = append(vars, impl.Shown{Name: n.Name, Text: valText(r.v)})
		case seen && r.typ == impl.TBox:
			vars = append(vars, impl.Shown{Name: n.Name, Text: valText(r.box.v)})
		}
	}
	return vars
}

// hide takes the registers from keep on from sight.
func (c *stepCall) hide(keep int) { c.hidden = len(c.regs) - keep }

// here is the Fn and the line at hand of the innermost open call.
func (s *stepRun) here() (int, int) {
	calls := s.task().calls
	if len(calls) == 0 {
		return 0, 0
	}
	c := calls[len(calls)-1]
	return c.proto, c.line
}

func (s *stepRun) recHere(kind int, txt string) {
	fn, line := s.here()
	s.rec(kind, fn, line, txt)
}

func (s *stepRun) told(v impl.Value) string {
	if v.Kind == impl.KTable {
		if c := tabGet(s.tables[v.Ref].table, text("code")); c.Kind == impl.KInt {
			return fmt.Sprintf("error %d", c.Num)
		}
	}
	return valText(v)
}

func (s *stepRun) throwValue(v impl.Value) {
	var trace []string
	for _, c := range s.task().calls {
		name := s.c.Protos[c.proto].Name
		if name == "" {
			name = "fn"
		}
		trace = append([]string{fmt.Sprintf("%s:%d", name, c.line)}, trace...)
	}
	s.recHere(impl.RecThrow, s.told(v))
	panic(stepThrow{v, strings.Join(trace, " ")})
}

func (s *stepRun) throw(code int) {
	_, line := s.here()
	v := s.newTable()
	t := s.tables[v.Ref]
	t.table = tabPut(t.table, text("code"), number(int64(code)))
	t.table = tabPut(t.table, text("line"), number(int64(line)))
	s.throwValue(v)
}

// throwIf throws a code when something is so.
func (s *stepRun) throwIf(bad bool, code int) {
	if bad {
		s.throw(code)
	}
}

func (s *stepRun) newTable() impl.Value {
	ref := len(s.tables)
	s.tables = append(s.tables, &stepTable{ref: ref})
	return impl.Value{Kind: impl.KTable, Ref: ref}
}

func (s *stepRun) make(cells int) {
	s.throwIf(s.live+s.since+cells > s.in.Cells, impl.ErrCells)
	s.since += cells
	s.rep.Made += cells
}

func (s *stepRun) raw(v, k, x impl.Value) {
	t := s.tables[v.Ref]
	_, ok := valKey(k)
	s.throwIf(!ok, impl.ErrKey)
	if tabAt(t.table, k) < 0 && x.Kind != impl.KNil {
		s.throwIf(len(t.table.Pairs) >= 500, impl.ErrLong)
		s.make(1)
	}
	t.table = tabPut(t.table, k, x)
}

// Calls.

func (s *stepRun) newCall(proto int, fn impl.Value, args []impl.Value) *stepCall {
	p := s.c.Protos[proto]
	c := &stepCall{proto: proto, fn: fn, regs: make([]stepReg, p.Regs)}
	for i := range p.Params {
		c.regs[i] = stepReg{typ: impl.TValue, v: argument(args, i)}
	}
	if p.Rest {
		rest := []impl.Value{}
		for i := p.Params; i < len(args); i++ {
			rest = append(rest, args[i])
		}
		c.regs[p.Params] = stepReg{typ: impl.TList, list: rest}
	}
	return c
}

func argument(args []impl.Value, i int) impl.Value {
	if i >= len(args) {
		return impl.Value{}
	}
	return args[i]
}

func (s *stepRun) call(callee impl.Value, args []impl.Value) []impl.Value {
	return s.callChain(callee, args, 0)
}

func (s *stepRun) callChain(callee impl.Value, args []impl.Value, handlers int) []impl.Value {
	s.tick()
	switch callee.Kind {
	case impl.KFn:
		open := 0
		for t := s.cur; t >= 0; t = s.tasks[t].waiter {
			open += len(s.tasks[t].calls)
		}
		s.throwIf(open >= s.in.Depth, impl.ErrDepth)
		proto := s.fns[callee.Ref].proto
		return s.runCall(s.newCall(proto, callee, args))
	case impl.KBuiltin:
		return s.builtin(int(callee.Num), args)
	}
	h := s.handler(callee, "call")
	s.throwIf(h.Kind == impl.KNil, impl.ErrCall)
	s.throwIf(handlers == 20, impl.ErrLoop)
	return s.callChain(h, slices.Concat([]impl.Value{callee}, args), handlers+1)
}

// runCall does a call from its beginning to its end.
func (s *stepRun) runCall(c *stepCall) []impl.Value {
	t := s.task()
	t.calls = append(t.calls, c)
	p := s.c.Protos[c.proto]
	if c.fn.Kind != impl.KNil {
		s.rec(impl.RecCall, c.proto, p.Line, p.Name)
	}
	way := stepWay{}
	for way.kind == "" {
		way = s.guarded(func() stepWay { return s.instruction(c) })
		if way.kind != "" {
			way = s.leaveCall(c, way)
		}
	}
	c.line = 0
	c.hide(p.Params)
	if c.fn.Kind != impl.KNil {
		back := way.kind
		if back == "return" {
			back = ""
		}
		s.rec(impl.RecBack, c.proto, 0, back)
	}
	t.calls = t.calls[:len(t.calls)-1]
	switch way.kind {
	case "error":
		panic(stepThrow{way.vals[0], way.trace})
	case "gone":
		panic(stepGone{})
	}
	return way.vals
}

// guarded does something and answers how it was left.
func (s *stepRun) guarded(do func() stepWay) (way stepWay) {
	defer func() {
		switch x := recover().(type) {
		case nil:
		case stepThrow:
			way = stepWay{"error", []impl.Value{x.v}, x.trace}
		case stepGone:
			way = stepWay{kind: "gone"}
		default:
			panic(x)
		}
	}()
	return do()
}

// leaveCall leaves the guards of a call; the way that it answers is none when the error was caught.
func (s *stepRun) leaveCall(c *stepCall, way stepWay) stepWay {
	c.way = way
	for len(c.guards) > 0 {
		g := c.guards[len(c.guards)-1]
		if g.try {
			c.guards = c.guards[:len(c.guards)-1]
			if c.way.kind == "error" {
				way, c.way = c.way, stepWay{}
				clear(c.regs[g.keep:])
				c.line, c.at, c.hidden = g.line, g.handler, 0
				s.recHere(impl.RecCatch, s.told(way.vals[0]))
				c.regs[g.keep] = stepReg{typ: impl.TValue, v: way.vals[0]}
				c.regs[g.keep+1] = stepReg{typ: impl.TValue, v: text(way.trace)}
				return stepWay{}
			}
			continue
		}
		clear(c.regs[g.keep:])
		c.hide(g.keep)
		s.runDefers(c, g)
		c.guards = c.guards[:len(c.guards)-1]
	}
	return c.way
}

// runDefers runs the defers of a guard; an error that leaves one changes the way of the call.
func (s *stepRun) runDefers(c *stepCall, g *stepGuard) {
	line := c.line
	for len(g.defers) > 0 {
		d := g.defers[len(g.defers)-1]
		g.defers = g.defers[:len(g.defers)-1]
		c.line = d.line
		left := s.guarded(func() stepWay {
			s.call(d.vals[0], d.vals[1:])
			return stepWay{}
		})
		c.line = line
		switch {
		case left.kind == "":
		case left.kind == "error" && c.way.kind == "gone":
			s.task().dropped = []impl.Value{valBool(false), left.vals[0], text(left.trace)}
		default:
			c.way = left
			clear(c.regs[g.keep:])
			c.hide(g.keep)
		}
	}
}

// leaveOne is ILeave: it answers a way when an error left a defer.
func (s *stepRun) leaveOne(c *stepCall) stepWay {
	g := c.guards[len(c.guards)-1]
	s.runDefers(c, g)
	c.guards = c.guards[:len(c.guards)-1]
	way := c.way
	c.way = stepWay{}
	return way
}

// Kinds.

func (s *stepRun) handler(v impl.Value, name string) impl.Value {
	if v.Kind != impl.KTable || s.tables[v.Ref].kind == nil {
		return impl.Value{}
	}
	return tabGet(s.tables[v.Ref].kind.table, text(name))
}

func (s *stepRun) eitherHandler(a, b impl.Value, name string) impl.Value {
	if h := s.handler(a, name); h.Kind != impl.KNil {
		return h
	}
	return s.handler(b, name)
}

func (s *stepRun) firstOfCall(h impl.Value, args ...impl.Value) impl.Value {
	return argument(s.call(h, args), 0)
}

func (s *stepRun) readAt(v, k impl.Value, steps int) impl.Value {
	s.throwIf(v.Kind != impl.KTable, impl.ErrIndex)
	if x := tabGet(s.tables[v.Ref].table, k); x.Kind != impl.KNil {
		return x
	}
	h := s.handler(v, "index")
	switch h.Kind {
	case impl.KNil:
		return h
	case impl.KTable:
		s.throwIf(steps == 20, impl.ErrLoop)
		return s.readAt(h, k, steps+1)
	}
	return s.firstOfCall(h, v, k)
}

func (s *stepRun) writeAt(v, k, x impl.Value, steps int) {
	s.throwIf(v.Kind != impl.KTable, impl.ErrIndex)
	_, ok := valKey(k)
	s.throwIf(!ok, impl.ErrKey)
	h := s.handler(v, "setindex")
	switch {
	case h.Kind == impl.KNil || tabAt(s.tables[v.Ref].table, k) >= 0:
		s.raw(v, k, x)
	case h.Kind == impl.KTable:
		s.throwIf(steps == 20, impl.ErrLoop)
		s.writeAt(h, k, x, steps+1)
	default:
		s.call(h, []impl.Value{v, k, x})
	}
}

func (s *stepRun) binary(op int, a, b impl.Value) impl.Value {
	tables := a.Kind == impl.KTable && b.Kind == impl.KTable
	switch op {
	case impl.OpEq, impl.OpNe:
		if h := s.eitherHandler(a, b, "eq"); tables && !valSame(a, b) && h.Kind != impl.KNil {
			return valBool(valTruth(s.firstOfCall(h, a, b)) == (op == impl.OpEq))
		}
	case impl.OpGt, impl.OpGe:
		if valCompare(a, b) == 3 {
			return s.binary(op-2, b, a)
		}
	case impl.OpLt, impl.OpLe:
		if valCompare(a, b) == 3 {
			h := s.eitherHandler(a, b, map[int]string{impl.OpLt: "lt", impl.OpLe: "le"}[op])
			s.throwIf(h.Kind == impl.KNil, impl.ErrType)
			return valBool(valTruth(s.firstOfCall(h, a, b)))
		}
	case impl.OpJoin:
		s.tick()
	}
	code, v := valBinary(op, a, b)
	if code == impl.ErrType {
		name := strings.Fields("add sub mul div idiv mod and or xor shl shr join")[op-1]
		if h := s.eitherHandler(a, b, name); h.Kind != impl.KNil {
			return s.firstOfCall(h, a, b)
		}
	}
	s.throwIf(code != 0, code)
	return v
}

func (s *stepRun) unary(op int, v impl.Value) impl.Value {
	if op == impl.OpLen && v.Kind == impl.KTable {
		if h := s.handler(v, "len"); h.Kind != impl.KNil {
			return s.firstOfCall(h, v)
		}
		return number(int64(tabLength(s.tables[v.Ref].table)))
	}
	code, got := valUnary(op, v)
	if code == impl.ErrType {
		name := map[int]string{impl.OpNeg: "neg", impl.OpFlip: "flip", impl.OpLen: "len"}[op]
		h := s.handler(v, name)
		s.throwIf(h.Kind == impl.KNil, impl.ErrType)
		return s.firstOfCall(h, v)
	}
	return got
}
