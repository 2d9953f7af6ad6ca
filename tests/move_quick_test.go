package tests

import (
	"slices"
	"strings"

	"loop.example/loom/impl"
)

// The second reading of moves, continued: quick instructions, builtins and
// what lives.

func value(v impl.Value) impl.Reg { return impl.Reg{Type: impl.TValue, Value: v} }

func listOf(vs []impl.Value) impl.Reg { return impl.Reg{Type: impl.TList, List: slices.Clone(vs)} }

// read reads an operand.
func read(f *impl.Frame, x int) impl.Reg {
	if x >= 0 {
		return f.Regs[x]
	}
	old := f.Regs[-1-x]
	f.Regs[-1-x] = impl.Reg{}
	return old
}

// quick does the quick instruction at which a call stands. What stays does so until it is completed.
func (x *mover) quick(f *impl.Frame) {
	q := x.q.Protos[f.Proto].Ins[f.At]
	p := x.c.Protos[f.Proto]
	switch q.Op {
	case impl.QDrops:
		clear(f.Regs[q.A : q.A+q.B])
		f.At += q.B
	case impl.QTest:
		a, b := read(f, q.C).Value, read(f, q.D).Value
		if x.operate(q.B, a, b) {
			f.Regs[q.A] = impl.Reg{}
			f.At += 2
			if valTruth(x.takeGiven()[0]) == (q.F == 1) {
				f.At = q.E
			}
		}
	case impl.QWith:
		f.Regs[q.F] = impl.Reg{}
		f.At++
		other := read(f, q.C).Value
		if q.E == 1 {
			x.operate(q.B, p.Consts[q.D], other)
		} else {
			x.operate(q.B, other, p.Consts[q.D])
		}
	case impl.QField:
		x.field(f, q)
	case impl.IIndex:
		v, k := read(f, q.B).Value, read(f, q.C).Value
		x.read(v, k)
	case impl.ISet:
		v, k, w := read(f, q.A).Value, read(f, q.B).Value, read(f, q.C).Value
		x.write(v, k, w)
	case impl.IUnary:
		x.unary(q.B, read(f, q.C).Value)
	case impl.IBinary:
		a, b := read(f, q.C).Value, read(f, q.D).Value
		x.operate(q.B, a, b)
	case impl.ICall:
		callee, args := read(f, q.B).Value, read(f, q.C).List
		x.call(callee, slices.Clone(args))
	case impl.IReturn:
		f.Leaving, f.Saved, f.Way = true, f.Line, impl.Way{Kind: 1, Vals: slices.Clone(read(f, q.A).List)}
	case impl.ILeave:
		f.Leaving, f.Saved, f.One = true, f.Line, true
	case impl.IThrow:
		x.throwValue(read(f, q.A).Value)
	default:
		x.own(f, impl.Ins{Op: q.Op, A: q.A, B: q.B, C: q.C, D: q.D})
	}
}

func (x *mover) field(f *impl.Frame, q impl.QIns) {
	f.Regs[q.F] = impl.Reg{}
	f.At++
	v, k := read(f, q.B).Value, x.c.Protos[f.Proto].Consts[q.C]
	if v.Kind == 5 && x.m.Slots[v.Ref].Ver == x.m.Caches[q.D].Ver {
		x.m.Hits++
		x.give(x.m.Slots[v.Ref].Table.Pairs[x.m.Caches[q.D].Place].Val)
		return
	}
	x.m.Misses++
	if v.Kind == 5 {
		if at := tabAt(x.m.Slots[v.Ref].Table, k); at >= 0 {
			x.m.Caches[q.D] = impl.Cache{Ver: x.m.Slots[v.Ref].Ver, Place: at}
		}
	}
	x.read(v, k)
}

// own does an instruction of the code's own that does not stay.
func (x *mover) own(f *impl.Frame, n impl.Ins) {
	p := x.c.Protos[f.Proto]
	to := f.At + 1
	switch n.Op {
	case impl.ILine:
		x.tick()
		f.Line = n.A
		x.recAt(1, "")
	case impl.IAt:
		f.Line = n.A
	case impl.ITick:
		x.tick()
	case impl.IConst:
		f.Regs[n.A] = value(p.Consts[n.B])
	case impl.IMove:
		f.Regs[n.A] = value(read(f, n.B).Value)
	case impl.IBox:
		v := read(f, n.B).Value
		f.Regs[n.A] = impl.Reg{Type: 2, Box: x.born(impl.Slot{Kind: 3, Value: v})}
	case impl.IGet:
		f.Regs[n.A] = value(x.m.Slots[f.Regs[n.B].Box].Value)
	case impl.IPut:
		x.m.Slots[f.Regs[n.A].Box].Value = read(f, n.B).Value
	case impl.IUpGet:
		f.Regs[n.A] = value(x.m.Slots[x.m.Slots[f.Self].Ups[n.B]].Value)
	case impl.IUpPut:
		x.m.Slots[x.m.Slots[f.Self].Ups[n.A]].Value = read(f, n.B).Value
	case impl.IFn:
		x.fn(f, n)
	case impl.ITable:
		x.cellsFor(1)
		at := x.born(impl.Slot{Kind: 1, Of: -1})
		x.newVer(at)
		f.Regs[n.A] = value(impl.Value{Kind: 5, Ref: at})
	case impl.IRaw:
		k, v := read(f, n.B).Value, read(f, n.C).Value
		x.throwIf(f.Regs[n.A].Value.Kind != 5, impl.ErrIndex)
		x.raw(f.Regs[n.A].Value, k, v)
	case impl.IRawAll:
		k, vs := read(f, n.B).Value, read(f, n.C).List
		x.throwIf(f.Regs[n.A].Value.Kind != 5, impl.ErrIndex)
		x.throwIf(k.Kind != 2, impl.ErrKey)
		for i := range vs {
			x.raw(f.Regs[n.A].Value, number(k.Num+int64(i)), vs[i])
		}
	case impl.IJump:
		to = n.A
	case impl.IIf:
		if valTruth(read(f, n.A).Value) {
			to = n.B
		}
	case impl.IUnless:
		if !valTruth(read(f, n.A).Value) {
			to = n.B
		}
	case impl.IDrop:
		f.Regs[n.A] = impl.Reg{}
	default:
		to = x.ownMore(f, n)
	}
	f.At = to
}

func (x *mover) fn(f *impl.Frame, n impl.Ins) {
	s := impl.Slot{Kind: 2, Proto: n.B}
	for _, u := range x.c.Protos[n.B].Ups {
		if u.Local {
			s.Ups = append(s.Ups, f.Regs[u.Index].Box)
		} else {
			s.Ups = append(s.Ups, x.m.Slots[f.Self].Ups[u.Index])
		}
	}
	x.cellsFor(1 + len(s.Ups))
	f.Regs[n.A] = value(impl.Value{Kind: 6, Ref: x.born(s)})
}

// ownMore answers where the call stands then.
func (x *mover) ownMore(f *impl.Frame, n impl.Ins) int {
	last := len(f.Fences) - 1
	switch n.Op {
	case impl.IList:
		f.Regs[n.A] = listOf(nil)
	case impl.IAdd:
		v := read(f, n.B).Value
		x.throwIf(len(f.Regs[n.A].List) >= 250, impl.ErrLong)
		f.Regs[n.A].List = append(slices.Clone(f.Regs[n.A].List), v)
	case impl.IJoin:
		vs := read(f, n.B).List
		both := slices.Concat(f.Regs[n.A].List, vs)
		x.throwIf(len(both) > 250, impl.ErrLong)
		f.Regs[n.A].List = both
	case impl.IFirst:
		f.Regs[n.A] = value(argument(read(f, n.B).List, 0))
	case impl.IPick:
		f.Regs[n.A] = value(argument(f.Regs[n.B].List, n.C))
	case impl.ICopy:
		f.Regs[n.A] = listOf(f.Regs[n.B].List)
	case impl.ITry:
		f.Fences = append(f.Fences, impl.Fence{Try: true, Keep: n.B, Handler: n.A, Line: f.Line})
	case impl.IEndTry:
		f.Fences = f.Fences[:last]
	case impl.IScope:
		f.Fences = append(f.Fences, impl.Fence{Keep: n.A})
	case impl.IKeep:
		f.Fences[last].Keep = n.A
	case impl.IDefer:
		callee, args := read(f, n.A).Value, read(f, n.B).List
		f.Fences[last].Defers = append(f.Fences[last].Defers, impl.Kept{Line: f.Line, Vals: slices.Concat([]impl.Value{callee}, args)})
	case impl.IFor:
		x.countFrom(f, n.A)
	case impl.IForTest:
		if stepPast(f.Regs[n.A].Value, f.Regs[n.A+1].Value, f.Regs[n.A+2].Value) {
			return n.B
		}
	case impl.IForNext:
		if sum, ok := stepSum(f.Regs[n.A].Value, f.Regs[n.A+2].Value); ok {
			f.Regs[n.A].Value = sum
			return n.B
		}
	case impl.IEach:
		return x.each(f, n.A)
	case impl.IEachNext:
		return x.eachNext(f, n)
	}
	return f.At + 1
}

func (x *mover) countFrom(f *impl.Frame, r int) {
	ints := 0
	for _, reg := range f.Regs[r : r+3] {
		x.throwIf(!valNumber(reg.Value), impl.ErrType)
		if reg.Value.Kind == 2 {
			ints++
		}
	}
	step := valFloat(f.Regs[r+2].Value)
	x.throwIf(step == 0 || step != step, impl.ErrStep)
	for i := range 3 {
		if ints < 3 {
			f.Regs[r+i].Value = float(valFloat(f.Regs[r+i].Value))
		}
	}
}

func (x *mover) each(f *impl.Frame, r int) int {
	v := f.Regs[r].Value
	if v.Kind != 5 {
		x.eachOf(f, r)
		return f.At + 1
	}
	if h := x.handler(v, "each"); h.Kind != 0 {
		f.Regs[r] = impl.Reg{}
		at := f.At
		x.callHandler(1, h, v)
		return at
	}
	f.Regs[r+1] = value(number(0))
	return f.At + 1
}

func (x *mover) eachNext(f *impl.Frame, n impl.Ins) int {
	v, p := f.Regs[n.A].Value, f.Regs[n.A+1].Value
	if p.Kind != 2 {
		x.tick()
		at := f.At
		x.call(v, nil)
		return at
	}
	x.throwIf(v.Kind != 5, impl.ErrIndex)
	pair, ok := tabAfter(x.m.Slots[v.Ref].Table, int(p.Num))
	if !ok {
		return n.B
	}
	x.tick()
	f.Regs[n.A+1] = value(number(int64(pair.Turn)))
	f.Regs[n.C] = listOf([]impl.Value{pair.Key, pair.Val})
	return f.At + 1
}

// Builtins.

func (x *mover) builtin(b int, args []impl.Value) {
	v, k := argument(args, 0), argument(args, 1)
	isTable := v.Kind == 5
	switch b {
	case 0:
		line := ""
		for i, a := range args {
			if i > 0 {
				line += " "
			}
			line += valText(a)
		}
		x.throwIf(len(line) > 4000, impl.ErrLong)
		x.recAt(6, line)
		x.give()
	case 1:
		line := impl.Value{}
		if x.m.Read < len(x.in.Lines) {
			line = text(x.in.Lines[x.m.Read])
			x.m.Read++
		}
		x.give(line)
	case 2:
		x.give(text([]string{"nil", "bool", "int", "float", "str", "table", "fn", "task", "fn"}[v.Kind]))
	case 3:
		x.give(text(valText(v)))
	case 4:
		x.throwIf(!isTable || k.Kind != 0 && k.Kind != 5, impl.ErrArgs)
		s := &x.m.Slots[v.Ref]
		s.Of, s.Wants = -1, false
		if k.Kind == 5 {
			s.Of, s.Wants = k.Ref, tabGet(x.m.Slots[k.Ref].Table, text("last")).Kind == 6
		}
		x.give(v)
	case 5:
		kind := impl.Value{}
		if isTable && x.m.Slots[v.Ref].Of >= 0 {
			kind = impl.Value{Kind: 5, Ref: x.m.Slots[v.Ref].Of}
		}
		x.give(kind)
	case 6:
		x.throwIf(!isTable, impl.ErrArgs)
		x.give(tabGet(x.m.Slots[v.Ref].Table, k))
	case 7:
		x.throwIf(!isTable, impl.ErrArgs)
		x.raw(v, k, argument(args, 2))
		x.give()
	case 13:
		x.push(impl.Frame{Kind: 3})
	case 14:
		x.give(number(int64(x.cells(x.reached()))))
	default:
		x.taskBuiltin(b, args)
	}
}

func (x *mover) taskBuiltin(b int, args []impl.Value) {
	v := argument(args, 0)
	switch b {
	case 8:
		x.throwIf(v.Kind != 6, impl.ErrArgs)
		x.throwIf(len(x.m.Tasks)-1 == 100, impl.ErrTask)
		x.cellsFor(1)
		x.m.Tasks = append(x.m.Tasks, impl.Task{State: 0, Fn: v, Waiter: -1})
		x.give(impl.Value{Kind: 7, Ref: len(x.m.Tasks) - 1})
		return
	case 10:
		t := x.task()
		spoken := slices.ContainsFunc(t.Frames, func(f impl.Frame) bool { return f.Kind == 3 })
		x.throwIf(x.m.Cur == 0 || t.Giving || spoken, impl.ErrTask)
		waiter := t.Waiter
		t.State, t.Waiter = 1, -1
		x.turn(waiter, "yield")
		x.give(append([]impl.Value{valBool(true)}, args...)...)
		return
	}
	x.throwIf(v.Kind != 7, impl.ErrArgs)
	t := &x.m.Tasks[v.Ref]
	if b == 11 {
		x.give(text(strings.Fields("new waiting running busy done")[t.State]))
		return
	}
	x.throwIf(t.State > 1, impl.ErrTask)
	if b == 12 && t.State == 0 {
		*t = impl.Task{State: 4, Waiter: -1}
		x.give(valBool(true))
		return
	}
	fn, fresh := t.Fn, t.State == 0
	t.Waiter, t.Fn, t.Giving = x.m.Cur, impl.Value{}, b == 12
	x.task().State = 3
	if b == 12 {
		x.turn(v.Ref, "giveup")
		x.m.Way = impl.Way{Kind: 3}
		return
	}
	x.turn(v.Ref, "resume")
	if fresh {
		x.call(fn, args[1:])
	} else {
		x.give(args[1:]...)
	}
}

// What lives.

type met map[[2]int]bool

func thingOf(v impl.Value) ([2]int, bool) {
	return [2]int{v.Kind, v.Ref}, v.Kind >= 5 && v.Kind <= 7
}

// there tells whether a value is reached or is no thing.
func (g met) there(v impl.Value) bool {
	k, ok := thingOf(v)
	return !ok || g[k]
}

func (x *mover) reached() met {
	g := met{}
	for i, t := range x.m.Tasks {
		if t.State == 2 || t.State == 3 {
			g[[2]int{7, i}] = true
		}
	}
	for size := -1; size != len(g); {
		size = len(g)
		for i := range x.m.Tasks {
			if g[[2]int{7, i}] {
				x.fromTask(g, x.m.Tasks[i])
			}
		}
		for i, s := range x.m.Slots {
			if s.Kind == 1 && g[[2]int{5, i}] {
				x.fromTable(g, s)
			}
			if s.Kind == 2 && g[[2]int{6, i}] {
				for _, up := range s.Ups {
					g.add(x.m.Slots[up].Value)
				}
			}
		}
	}
	return g
}

func (g met) add(vs ...impl.Value) {
	for _, v := range vs {
		if k, ok := thingOf(v); ok {
			g[k] = true
		}
	}
}

func (x *mover) fromTask(g met, t impl.Task) {
	g.add(t.Fn)
	g.add(t.Dropped...)
	for _, f := range t.Frames {
		g.add(f.Vals...)
		g.add(f.Way.Vals...)
		if f.Kind == 1 && f.Self >= 0 {
			g[[2]int{6, f.Self}] = true
		}
		for _, r := range f.Regs {
			g.add(r.Value)
			g.add(r.List...)
			if r.Type == 2 {
				g.add(x.m.Slots[r.Box].Value)
			}
		}
		for _, fence := range f.Fences {
			for _, d := range fence.Defers {
				g.add(d.Vals...)
			}
		}
	}
}

func (x *mover) weak(s impl.Slot) (keys, vals bool) {
	if s.Of < 0 {
		return false, false
	}
	w := tabGet(x.m.Slots[s.Of].Table, text("weak"))
	return strings.Contains(w.Str, "k"), strings.Contains(w.Str, "v")
}

func (x *mover) fromTable(g met, s impl.Slot) {
	if s.Of >= 0 {
		g[[2]int{5, s.Of}] = true
	}
	keys, vals := x.weak(s)
	for _, p := range s.Table.Pairs {
		if !keys {
			g.add(p.Key)
		}
		if !vals && g.there(p.Key) {
			g.add(p.Val)
		}
	}
}

func (x *mover) cells(g met) int {
	n := 0
	for k := range g {
		switch k[0] {
		case 5:
			n += 1 + len(x.m.Slots[k[1]].Table.Pairs)
		case 6:
			n += 1 + len(x.m.Slots[k[1]].Ups)
		case 7:
			n += min(k[1], 1)
		}
	}
	return n
}

// lastWords does (1) of 4.9 and answers the list of (2).
func (x *mover) lastWords() []impl.Value {
	g := x.reached()
	var order []int
	for i, s := range x.m.Slots {
		if s.Kind == 1 {
			order = append(order, i)
		}
	}
	slices.SortFunc(order, func(a, b int) int { return x.m.Slots[a].Born - x.m.Slots[b].Born })
	for _, i := range order {
		s := &x.m.Slots[i]
		keys, vals := x.weak(*s)
		var left []impl.Pair
		for _, p := range s.Table.Pairs {
			if !(keys && !g.there(p.Key)) && !(vals && !g.there(p.Val)) {
				left = append(left, p)
			}
		}
		if g[[2]int{5, i}] && len(left) < len(s.Table.Pairs) {
			s.Table.Pairs = left
			x.newVer(i)
		}
	}
	var told []impl.Value
	for _, i := range order {
		s := &x.m.Slots[i]
		if g[[2]int{5, i}] || !s.Wants {
			continue
		}
		s.Wants = false
		if last := tabGet(x.m.Slots[s.Of].Table, text("last")); last.Kind == 6 {
			told = append(told, impl.Value{Kind: 5, Ref: i}, last)
		}
	}
	return told
}
