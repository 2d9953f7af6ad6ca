package tests

import (
	"slices"
	"strings"

	"loop.example/loom/impl"
)

// Plain stepping, continued: instructions, builtins, tasks and what lives.

// instruction does the one at which a call stands; it answers a way when the call is being left by it.
func (s *stepRun) instruction(c *stepCall) stepWay {
	x := s.c.Protos[c.proto].Ins[c.at]
	way, to := stepWay{}, c.at+1
	switch x.Op {
	case impl.ILine:
		s.tick()
		c.line = x.A
		s.recHere(impl.RecLine, "")
	case impl.IAt:
		c.line = x.A
	case impl.ITick:
		s.tick()
	case impl.IJump:
		to = x.A
	case impl.IIf, impl.IUnless:
		if valTruth(c.val(x.A)) == (x.Op == impl.IIf) {
			to = x.B
		}
	case impl.IReturn:
		way = stepWay{kind: "return", vals: c.vals(x.A)}
	case impl.IThrow:
		s.throwValue(c.val(x.A))
	case impl.ITry:
		c.guards = append(c.guards, &stepGuard{try: true, keep: x.B, handler: x.A, line: c.line})
	case impl.IEndTry:
		c.guards = c.guards[:len(c.guards)-1]
	case impl.IScope:
		c.guards = append(c.guards, &stepGuard{keep: x.A})
	case impl.IKeep:
		c.guards[len(c.guards)-1].keep = x.A
	case impl.IDefer:
		g := c.guards[len(c.guards)-1]
		callee := c.val(x.A)
		g.defers = append(g.defers, stepDefer{c.line, slices.Concat([]impl.Value{callee}, c.vals(x.B))})
	case impl.ILeave:
		way = s.leaveOne(c)
	case impl.IFor:
		s.countFrom(c, x.A)
	case impl.IForTest:
		if stepPast(c.regs[x.A].v, c.regs[x.A+1].v, c.regs[x.A+2].v) {
			to = x.B
		}
	case impl.IForNext:
		if sum, ok := stepSum(c.regs[x.A].v, c.regs[x.A+2].v); ok {
			c.regs[x.A].v, to = sum, x.B
		}
	case impl.IEach:
		s.each(c, x.A)
	case impl.IEachNext:
		if !s.eachNext(c, x) {
			to = x.B
		}
	default:
		s.plainInstruction(c, x)
	}
	if way.kind == "" {
		c.at = to
	}
	return way
}

// plainInstruction is one behind which the next one is done.
func (s *stepRun) plainInstruction(c *stepCall, x impl.Ins) {
	p := s.c.Protos[c.proto]
	switch x.Op {
	case impl.IConst:
		c.put(x.A, p.Consts[x.B])
	case impl.IMove:
		c.put(x.A, c.val(x.B))
	case impl.IBox:
		c.regs[x.A] = stepReg{typ: impl.TBox, box: &stepBox{c.val(x.B)}}
	case impl.IGet:
		c.put(x.A, c.regs[x.B].box.v)
	case impl.IPut:
		c.regs[x.A].box.v = c.val(x.B)
	case impl.IUpGet:
		c.put(x.A, s.fns[c.fn.Ref].ups[x.B].v)
	case impl.IUpPut:
		s.fns[c.fn.Ref].ups[x.A].v = c.val(x.B)
	case impl.IFn:
		s.makeFn(c, x)
	case impl.ITable:
		s.make(1)
		c.put(x.A, s.newTable())
	case impl.IRaw:
		k, v := c.val(x.B), c.val(x.C)
		s.throwIf(c.regs[x.A].v.Kind != impl.KTable, impl.ErrIndex)
		s.raw(c.regs[x.A].v, k, v)
	case impl.IRawAll:
		k, vs := c.val(x.B), c.vals(x.C)
		s.throwIf(c.regs[x.A].v.Kind != impl.KTable, impl.ErrIndex)
		s.throwIf(k.Kind != impl.KInt, impl.ErrKey)
		for _, v := range vs {
			s.raw(c.regs[x.A].v, k, v)
			k.Num++
		}
	case impl.IIndex:
		v, k := c.val(x.B), c.val(x.C)
		c.put(x.A, s.readAt(v, k, 0))
	case impl.ISet:
		v, k, w := c.val(x.A), c.val(x.B), c.val(x.C)
		s.writeAt(v, k, w, 0)
	case impl.IUnary:
		c.put(x.A, s.unary(x.B, c.val(x.C)))
	case impl.IBinary:
		v, w := c.val(x.C), c.val(x.D)
		c.put(x.A, s.binary(x.B, v, w))
	case impl.IDrop:
		c.regs[x.A] = stepReg{}
	default:
		s.listInstruction(c, x)
	}
}

func (s *stepRun) listInstruction(c *stepCall, x impl.Ins) {
	old := c.regs[x.A].list
	switch x.Op {
	case impl.IList:
		c.putList(x.A, nil)
	case impl.IAdd:
		v := c.val(x.B)
		s.throwIf(len(old) >= 250, impl.ErrLong)
		c.putList(x.A, slices.Concat(old, []impl.Value{v}))
	case impl.IJoin:
		vs := c.vals(x.B)
		s.throwIf(len(old)+len(vs) > 250, impl.ErrLong)
		c.putList(x.A, slices.Concat(old, vs))
	case impl.IFirst:
		c.put(x.A, argument(c.vals(x.B), 0))
	case impl.IPick:
		c.put(x.A, argument(c.regs[x.B].list, x.C))
	case impl.ICopy:
		c.putList(x.A, c.regs[x.B].list)
	case impl.ICall:
		callee, args := c.val(x.B), c.vals(x.C)
		c.putList(x.A, s.call(callee, args))
	}
}

func (c *stepCall) put(r int, v impl.Value) { c.regs[r] = stepReg{typ: impl.TValue, v: v} }

func (c *stepCall) putList(r int, vs []impl.Value) {
	c.regs[r] = stepReg{typ: impl.TList, list: slices.Clone(vs)}
}

func (c *stepCall) operand(x int) stepReg {
	if x >= 0 {
		return c.regs[x]
	}
	reg := c.regs[-1-x]
	c.regs[-1-x] = stepReg{}
	return reg
}

func (c *stepCall) val(x int) impl.Value { return c.operand(x).v }

func (c *stepCall) vals(x int) []impl.Value { return slices.Clone(c.operand(x).list) }

func (s *stepRun) makeFn(c *stepCall, x impl.Ins) {
	ups := s.c.Protos[x.B].Ups
	s.make(1 + len(ups))
	fn := &stepFn{proto: x.B}
	for _, u := range ups {
		if u.Local {
			fn.ups = append(fn.ups, c.regs[u.Index].box)
		} else {
			fn.ups = append(fn.ups, s.fns[c.fn.Ref].ups[u.Index])
		}
	}
	c.put(x.A, impl.Value{Kind: impl.KFn, Ref: len(s.fns)})
	s.fns = append(s.fns, fn)
}

func (s *stepRun) countFrom(c *stepCall, r int) {
	three := []impl.Value{c.regs[r].v, c.regs[r+1].v, c.regs[r+2].v}
	ints := true
	for _, v := range three {
		s.throwIf(!valNumber(v), impl.ErrType)
		ints = ints && v.Kind == impl.KInt
	}
	s.throwIf(valSame(three[2], number(0)) || valNaN(three[2]), impl.ErrStep)
	for i, v := range three {
		if !ints {
			c.put(r+i, float(valFloat(v)))
		}
	}
}

func stepPast(first, last, step impl.Value) bool {
	down := valNumber(step) && valCompare(step, number(0)) == -1
	switch valCompare(first, last) {
	case 2, 3:
		return true
	case 1:
		return !down
	case -1:
		return down
	}
	return false
}

func stepSum(first, step impl.Value) (impl.Value, bool) {
	code, sum := valBinary(impl.OpAdd, first, step)
	if code != 0 {
		return sum, false
	}
	if first.Kind == impl.KInt && step.Kind == impl.KInt {
		up, down := step.Num > 0, step.Num < 0
		if !up && !down || up && sum.Num < first.Num || down && sum.Num > first.Num {
			return sum, false
		}
	}
	return sum, true
}

func (s *stepRun) each(c *stepCall, r int) {
	v := c.regs[r].v
	if v.Kind == impl.KTable {
		h := s.handler(v, "each")
		if h.Kind == impl.KNil {
			c.put(r+1, number(0))
			return
		}
		c.regs[r] = stepReg{}
		c.put(r, s.firstOfCall(h, v))
	}
	v = c.regs[r].v
	s.throwIf(v.Kind != impl.KFn && v.Kind != impl.KBuiltin, impl.ErrType)
	c.put(r+1, impl.Value{})
}

// eachNext tells whether there is a next turn.
func (s *stepRun) eachNext(c *stepCall, x impl.Ins) bool {
	v, p := c.regs[x.A].v, c.regs[x.A+1].v
	if p.Kind != impl.KInt {
		s.tick()
		vs := s.call(v, nil)
		if argument(vs, 0).Kind == impl.KNil {
			return false
		}
		c.putList(x.C, vs)
		return true
	}
	s.throwIf(v.Kind != impl.KTable, impl.ErrIndex)
	pair, ok := tabAfter(s.tables[v.Ref].table, int(p.Num))
	if !ok {
		return false
	}
	s.tick()
	c.put(x.A+1, number(int64(pair.Turn)))
	c.putList(x.C, []impl.Value{pair.Key, pair.Val})
	return true
}

// Builtins.

func (s *stepRun) builtin(b int, args []impl.Value) []impl.Value {
	first, second, third := argument(args, 0), argument(args, 1), argument(args, 2)
	some := func(vs ...impl.Value) []impl.Value { return vs }
	table := first.Kind == impl.KTable
	switch b {
	case impl.BPrint:
		var texts []string
		for _, v := range args {
			texts = append(texts, valText(v))
		}
		line := strings.Join(texts, " ")
		s.throwIf(len(line) > 4000, impl.ErrLong)
		s.recHere(impl.RecPrint, line)
		return nil
	case impl.BRead:
		if s.read == len(s.in.Lines) {
			return some(impl.Value{})
		}
		s.read++
		return some(text(s.in.Lines[s.read-1]))
	case impl.BType:
		return some(text(strings.Fields("nil bool int float str table fn task fn")[first.Kind]))
	case impl.BText:
		return some(text(valText(first)))
	case impl.BSetKind:
		s.throwIf(!table || second.Kind != impl.KTable && second.Kind != impl.KNil, impl.ErrArgs)
		t := s.tables[first.Ref]
		t.kind, t.wants = nil, false
		if second.Kind == impl.KTable {
			t.kind = s.tables[second.Ref]
			t.wants = tabGet(t.kind.table, text("last")).Kind == impl.KFn
		}
		return some(first)
	case impl.BKind:
		if table && s.tables[first.Ref].kind != nil {
			return some(impl.Value{Kind: impl.KTable, Ref: s.tables[first.Ref].kind.ref})
		}
		return some(impl.Value{})
	case impl.BRawGet:
		s.throwIf(!table, impl.ErrArgs)
		return some(tabGet(s.tables[first.Ref].table, second))
	case impl.BRawSet:
		s.throwIf(!table, impl.ErrArgs)
		s.raw(first, second, third)
		return nil
	case impl.BCollect:
		return some(number(int64(s.collect())))
	case impl.BCells:
		return some(number(int64(s.count(s.reached()))))
	}
	return s.taskBuiltin(b, args)
}

func (s *stepRun) taskBuiltin(b int, args []impl.Value) []impl.Value {
	first := argument(args, 0)
	if b == impl.BTask {
		s.throwIf(first.Kind != impl.KFn, impl.ErrArgs)
		s.throwIf(len(s.tasks) == 101, impl.ErrTask)
		s.make(1)
		s.tasks = append(s.tasks, &stepTask{state: "new", fn: first, waiter: -1, wake: make(chan stepWake)})
		return []impl.Value{{Kind: impl.KTask, Ref: len(s.tasks) - 1}}
	}
	if b == impl.BYield {
		t := s.task()
		s.throwIf(s.cur == 0 || t.giving || len(t.speaking) > 0, impl.ErrTask)
		return s.yield(t, args)
	}
	s.throwIf(first.Kind != impl.KTask, impl.ErrArgs)
	t := s.tasks[first.Ref]
	if b == impl.BStatus {
		return []impl.Value{text(t.state)}
	}
	s.throwIf(t.state != "new" && t.state != "waiting", impl.ErrTask)
	switch {
	case b == impl.BResume:
		return s.handOver(first.Ref, "resume", stepWake{vals: args[1:]})
	case t.state == "new":
		t.state, t.fn = "done", impl.Value{}
		return []impl.Value{valBool(true)}
	}
	t.giving = true
	return s.handOver(first.Ref, "giveup", stepWake{gone: true})
}

// Tasks.

func (s *stepRun) handOver(to int, why string, w stepWake) []impl.Value {
	me, t := s.task(), s.tasks[to]
	fresh := t.state == "new"
	me.state, t.state, t.waiter = "busy", "running", s.cur
	s.cur = to
	s.rec(impl.RecTurn, 0, 0, why)
	if fresh {
		fn := t.fn
		t.fn = impl.Value{}
		go s.body(t, fn, w.vals)
	} else {
		t.wake <- w
	}
	return s.wait(me)
}

func (s *stepRun) wait(t *stepTask) []impl.Value {
	w := <-t.wake
	t.asleep = false
	switch {
	case w.kill:
		panic(stepKill{})
	case w.over:
		panic(stepOver{})
	case w.gone:
		panic(stepGone{})
	}
	return w.vals
}

func (s *stepRun) yield(t *stepTask, args []impl.Value) []impl.Value {
	t.state = "waiting"
	back := s.turnBack(t, "yield")
	t.asleep = true
	back.wake <- stepWake{vals: slices.Concat([]impl.Value{valBool(true)}, args)}
	return s.wait(t)
}

func (s *stepRun) turnBack(t *stepTask, why string) *stepTask {
	s.cur = t.waiter
	back := s.task()
	back.state = "running"
	s.rec(impl.RecTurn, 0, 0, why)
	t.waiter = -1
	return back
}

// body is what the goroutine of a task does.
func (s *stepRun) body(t *stepTask, fn impl.Value, args []impl.Value) {
	defer func() {
		switch x := recover().(type) {
		case nil, stepKill:
		case stepOver:
			s.tasks[t.waiter].wake <- stepWake{over: true}
		default:
			panic(x)
		}
	}()
	way := s.guarded(func() stepWay { return stepWay{kind: "return", vals: s.call(fn, args)} })
	vals, why := []impl.Value{valBool(true)}, "gone"
	switch {
	case way.kind == "return":
		vals, why = append(vals, way.vals...), "done"
	case way.kind == "error":
		vals, why = []impl.Value{valBool(false), way.vals[0], text(way.trace)}, "error"
	case t.dropped != nil:
		vals = t.dropped
	}
	t.state, t.giving, t.dropped = "done", false, nil
	s.turnBack(t, why).wake <- stepWake{vals: vals}
}

// What lives.

// reached goes over all that is reached again and again, until nothing comes to it any more.
func (s *stepRun) reached() map[impl.Value]bool {
	got, grown := map[impl.Value]bool{}, true
	add := func(vs ...impl.Value) {
		for _, v := range vs {
			if v.Kind >= impl.KTable && v.Kind <= impl.KTask && !got[v] {
				got[v], grown = true, true
			}
		}
	}
	for i, t := range s.tasks {
		if t.state == "running" || t.state == "busy" {
			add(impl.Value{Kind: impl.KTask, Ref: i})
		}
	}
	for grown {
		grown = false
		var all []impl.Value
		for v := range got {
			all = append(all, v)
		}
		for _, v := range all {
			switch v.Kind {
			case impl.KTable:
				s.holds(s.tables[v.Ref], got, add)
			case impl.KFn:
				for _, b := range s.fns[v.Ref].ups {
					add(b.v)
				}
			case impl.KTask:
				s.needs(s.tasks[v.Ref], add)
			}
		}
	}
	return got
}

// needs adds what the calls of a task still need.
func (s *stepRun) needs(t *stepTask, add func(...impl.Value)) {
	add(t.fn)
	add(t.dropped...)
	for _, vs := range t.speaking {
		add(vs...)
	}
	for _, c := range t.calls {
		add(c.fn)
		add(c.way.vals...)
		for _, r := range c.regs {
			add(r.v)
			add(r.list...)
			if r.box != nil {
				add(r.box.v)
			}
		}
		for _, g := range c.guards {
			for _, d := range g.defers {
				add(d.vals...)
			}
		}
	}
}

// weakly tells what a table holds weakly: keys, values.
func (s *stepRun) weakly(t *stepTable) (bool, bool) {
	if t.kind == nil {
		return false, false
	}
	w := tabGet(t.kind.table, text("weak"))
	return w.Kind == impl.KStr && strings.ContainsRune(w.Str, 'k'), w.Kind == impl.KStr && strings.ContainsRune(w.Str, 'v')
}

func (s *stepRun) holds(t *stepTable, got map[impl.Value]bool, add func(...impl.Value)) {
	if t.kind != nil {
		add(impl.Value{Kind: impl.KTable, Ref: t.kind.ref})
	}
	keys, vals := s.weakly(t)
	for _, p := range t.table.Pairs {
		if !keys {
			add(p.Key)
		}
		if !vals && (!keys || stepThere(p.Key, got)) {
			add(p.Val)
		}
	}
}

// stepThere tells whether a value is reached or is no thing.
func stepThere(v impl.Value, got map[impl.Value]bool) bool {
	return v.Kind < impl.KTable || v.Kind > impl.KTask || got[v]
}

func (s *stepRun) count(got map[impl.Value]bool) int {
	n := 0
	for v := range got {
		switch {
		case v.Kind == impl.KTable:
			n += 1 + len(s.tables[v.Ref].table.Pairs)
		case v.Kind == impl.KFn:
			n += 1 + len(s.fns[v.Ref].ups)
		case v.Ref > 0:
			n++
		}
	}
	return n
}

func (s *stepRun) collect() int {
	for {
		vals := s.due()
		if len(vals) == 0 {
			break
		}
		t := s.task()
		t.speaking = append(t.speaking, vals)
		for i := 0; i < len(vals); i += 2 {
			s.rec(impl.RecLast, 0, 0, "")
			left := s.guarded(func() stepWay {
				s.call(vals[i+1], vals[i:i+1])
				return stepWay{}
			})
			if left.kind == "error" {
				s.rec(impl.RecCatch, 0, 0, s.told(left.vals[0]))
			}
		}
		t.speaking = t.speaking[:len(t.speaking)-1]
	}
	s.live, s.since = s.count(s.reached()), 0
	return s.live
}

// due takes away what is held weakly and not reached, and answers the tables that are told their last words, and their fns.
func (s *stepRun) due() []impl.Value {
	got := s.reached()
	var vals []impl.Value
	for i, t := range s.tables {
		keys, values := s.weakly(t)
		if !got[impl.Value{Kind: impl.KTable, Ref: i}] {
			continue
		}
		var left []impl.Pair
		for _, p := range t.table.Pairs {
			if (!keys || stepThere(p.Key, got)) && (!values || stepThere(p.Val, got)) {
				left = append(left, p)
			}
		}
		t.table.Pairs = left
	}
	for i, t := range s.tables {
		me := impl.Value{Kind: impl.KTable, Ref: i}
		if !t.wants || got[me] {
			continue
		}
		t.wants = false
		if last := tabGet(t.kind.table, text("last")); last.Kind == impl.KFn {
			vals = append(vals, me, last)
		}
	}
	return vals
}
