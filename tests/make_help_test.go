package tests

import (
	"strconv"
	"strings"

	"loop.example/loom/impl"
)

// Made-up codes that do something: kinds with handlers, tasks, guards, loops
// and last words over a few things that all fns share. All that is begun
// leaves the registers above a certain one empty, so that most of these codes
// are verified.

// The boxes of the text that all fns have as their ups.
const (
	sharedKind = iota
	sharedOne
	sharedTwo
	sharedPlain
	sharedTask
	sharedFn
	sharedAny
	sharedWeak
	sharedCount
)

type maker struct {
	d      *dice
	c      *impl.Code
	p      *impl.Proto
	at     int   // the number of the proto
	vars   []int // registers that always hold a value
	boxes  int   // the first register with a shared box, -1 outside of the text
	top    int   // the first register that holds nothing
	guards []bool
	keep   int // the greatest keep of a guard that catches
	deep   int
	line   int
	tasky  bool // much is done with tasks
}

// madeCode is a code of several protos.
func (d *dice) madeCode() impl.Code {
	c := impl.Code{Protos: make([]impl.Proto, 3+d.roll(4))}
	last := len(c.Protos) - 1
	for p := range c.Protos {
		x := &c.Protos[p]
		x.Name, x.Line, x.Regs = []string{"main", "", "f", "g"}[min(p, 3)], 10*p, 40
		if p > 0 {
			x.Params, x.Rest = d.roll(4), d.roll(3) == 0
			for i := range sharedCount {
				x.Ups = append(x.Ups, impl.Up{Local: p < last, Index: i})
			}
		}
		if p > 0 && p < last {
			for i := range x.Ups {
				x.Ups[i].Index += 2 // behind the text's two variables
			}
		}
	}
	tasky := d.roll(3) == 0
	for p := range c.Protos {
		m := &maker{d: d, c: &c, p: &c.Protos[p], at: p, boxes: -1, tasky: tasky}
		m.proto(last)
	}
	return c
}

func (m *maker) emit(op int, fields ...int) int {
	f := [4]int{}
	copy(f[:], fields)
	m.p.Ins = append(m.p.Ins, impl.Ins{Op: op, A: f[0], B: f[1], C: f[2], D: f[3]})
	return len(m.p.Ins) - 1
}

func (m *maker) here() int { return len(m.p.Ins) }

func (m *maker) constant(v impl.Value) int {
	for i, old := range m.p.Consts {
		if alike(old, v) {
			return i
		}
	}
	m.p.Consts = append(m.p.Consts, v)
	return len(m.p.Consts) - 1
}

// load puts a const into a new register.
func (m *maker) load(v impl.Value) int {
	m.emit(impl.IConst, m.top, m.constant(v))
	m.top++
	return m.top - 1
}

func (m *maker) builtin(b int) int { return m.load(impl.Value{Kind: impl.KBuiltin, Num: int64(b)}) }

func (m *maker) proto(last int) {
	for r := range m.p.Params {
		m.vars = append(m.vars, r)
	}
	m.top = m.p.Params
	if m.p.Rest {
		m.top++
	}
	for range 2 {
		m.vars = append(m.vars, m.load(m.simple()))
	}
	if m.at == 0 {
		m.prologue(last)
	}
	if m.at == 1 {
		m.emit(impl.IFn, m.top, last)
		m.emit(impl.IUpPut, m.d.pick(sharedFn, sharedAny), -1-m.top)
	}
	if m.p.Rest && m.d.roll(2) == 0 {
		m.emit(impl.IPick, m.vars[0], m.p.Params, m.d.roll(3))
	}
	count := 1 + m.d.roll(4)
	if m.at == 0 {
		count = 4 + m.d.roll(8)
	}
	m.block(count)
	m.give()
}

// prologue makes the shared boxes and what is in them.
func (m *maker) prologue(last int) {
	m.boxes = m.top
	for range sharedCount {
		r := m.load(impl.Value{})
		m.emit(impl.IBox, r, -1-r)
	}
	for _, box := range []int{sharedKind, sharedOne, sharedTwo, sharedPlain, sharedWeak} {
		m.emit(impl.ITable, m.top)
		m.emit(impl.IPut, m.boxes+box, -1-m.top)
	}
	for p := 1; p < last; p++ {
		m.emit(impl.IFn, m.top, p)
		m.emit(impl.IPut, m.boxes+m.d.pick(sharedFn, sharedFn, sharedAny), m.top)
		m.top++
		m.rawField(sharedPlain, "f"+strconv.Itoa(p), m.top-1)
		m.top--
		m.emit(impl.IDrop, m.top)
	}
	names := strings.Fields("add sub mul div idiv mod and or xor shl shr join eq lt le neg flip len index index setindex setindex call call each last last weak")
	for range 3 + m.d.roll(14) {
		v := m.handlerValue()
		m.rawField(sharedKind, names[m.d.roll(len(names))], v)
		m.top--
		m.emit(impl.IDrop, m.top)
	}
	if m.d.roll(4) > 0 {
		m.anyFn()
		m.rawField(sharedKind, "last", m.top-1)
		m.top--
		m.emit(impl.IDrop, m.top)
	}
	m.kindOf(sharedOne, sharedKind)
	if m.d.roll(2) == 0 {
		m.kindOf(sharedTwo, sharedKind)
	}
	m.weakTable()
}

// weakTable makes the weak table's kind, sometimes itself one with last words.
func (m *maker) weakTable() {
	m.emit(impl.ITable, m.top)
	m.top++
	k := m.load(text("weak"))
	v := m.load(text([]string{"k", "v", "kv", "vk", "x", ""}[m.d.roll(6)]))
	m.emit(impl.IRaw, k-1, -1-k, -1-v)
	m.top -= 2
	m.emit(impl.IPut, m.boxes+sharedAny, -1-(m.top-1))
	m.top--
	m.kindOf(sharedWeak, sharedAny)
}

// handlerValue puts something that may stand as a handler into a new register.
func (m *maker) handlerValue() int {
	switch m.d.roll(12) {
	case 0:
		return m.builtin(m.d.roll(impl.Builtins))
	case 1:
		return m.builtin(m.d.pick(impl.BRawGet, impl.BText, impl.BPrint, impl.BType))
	case 2:
		m.shared(m.d.pick(sharedTwo, sharedPlain, sharedOne))
		return m.top - 1
	case 3:
		return m.load(m.simple())
	}
	m.anyFn()
	return m.top - 1
}

// anyFn puts one of the fns into a new register.
func (m *maker) anyFn() {
	if m.d.roll(3) == 0 {
		m.shared(sharedFn)
		return
	}
	m.shared(sharedPlain)
	r := m.top - 1
	k := m.load(text("f" + strconv.Itoa(1+m.d.roll(len(m.c.Protos)-2))))
	m.emit(impl.IIndex, r, -1-r, -1-k)
	m.top--
}

// rawField puts what a register holds into a shared table.
func (m *maker) rawField(box int, name string, r int) {
	m.shared(box)
	t := m.top - 1
	k := m.load(text(name))
	m.emit(impl.IRaw, t, -1-k, r)
	m.emit(impl.IDrop, t)
	m.top -= 2
}

func (m *maker) kindOf(box, kind int) {
	base := m.top
	m.builtin(impl.BSetKind)
	m.emit(impl.IList, m.top)
	m.top++
	for _, b := range []int{box, kind} {
		m.shared(b)
		m.top--
		m.emit(impl.IAdd, base+1, -1-m.top)
	}
	m.emit(impl.ICall, base, -1-base, -1-(base+1))
	m.emit(impl.IDrop, base)
	m.top = base
}

// shared puts what a shared box holds into a new register.
func (m *maker) shared(box int) {
	if m.boxes >= 0 {
		m.emit(impl.IGet, m.top, m.boxes+box)
	} else {
		m.emit(impl.IUpGet, m.top, box)
	}
	m.top++
}

// share puts an operand into a shared box.
func (m *maker) share(box, operand int) {
	if m.boxes >= 0 {
		m.emit(impl.IPut, m.boxes+box, operand)
	} else {
		m.emit(impl.IUpPut, box, operand)
	}
}

func (m *maker) simple() impl.Value {
	switch m.d.roll(12) {
	case 0:
		return impl.Value{}
	case 1:
		return valBool(m.d.roll(2) == 0)
	case 2:
		return float([]float64{0.5, -2, 1, 3e300}[m.d.roll(4)])
	case 3, 4:
		return text([]string{"a", "b", "code", "weak", "last", ""}[m.d.roll(6)])
	case 5:
		return impl.Value{Kind: impl.KBuiltin, Num: int64(m.d.roll(impl.Builtins))}
	case 6:
		return number(int64(m.d.pick(huge, tiny, -1)))
	}
	return number(int64(m.d.roll(5)))
}

// value puts some value into a new register.
func (m *maker) value() int {
	base := m.top
	if x := m.operand(); x >= 0 {
		m.emit(impl.IMove, base, x)
		m.top = base + 1
	}
	return base
}

// operand is a value to be read: a variable that stays, or a new register that is taken.
func (m *maker) operand() int {
	m.deep++
	defer func() { m.deep-- }()
	base := m.top
	if m.deep > 3 || m.d.roll(2) == 0 {
		switch m.d.roll(4) {
		case 0:
			m.load(m.simple())
		case 1, 2:
			m.shared(m.d.pick(sharedOne, sharedOne, sharedTwo, sharedPlain, sharedTask, sharedFn, sharedAny, sharedWeak, sharedKind))
		case 3:
			return m.vars[m.d.roll(len(m.vars))]
		}
		return -1 - base
	}
	m.worked(base)
	m.top = base + 1
	return -1 - base
}

// worked puts something that is worked out into register base.
func (m *maker) worked(base int) {
	switch m.d.roll(10) {
	case 0, 1, 2:
		a, b := m.operand(), 0
		op := 1 + m.d.roll(18)
		if m.d.roll(2) == 0 {
			b = -1 - m.load(m.simple())
			if a >= 0 || m.d.roll(2) == 0 {
				m.emit(impl.IBinary, base, op, a, b)
				return
			}
		} else {
			b = m.operand()
		}
		m.emit(impl.IBinary, base, op, a, b)
	case 3:
		x := m.operand()
		m.emit(impl.IUnary, base, 19+m.d.roll(4), x)
	case 4, 5:
		v := m.operand()
		k := m.load(text([]string{"a", "b", "f1", "code"}[m.d.roll(4)]))
		m.emit(impl.IIndex, base, v, -1-k)
	case 6:
		v, k := m.operand(), m.operand()
		m.emit(impl.IIndex, base, v, k)
	case 7:
		m.emit(impl.ITable, base)
		m.top = base + 1
		if m.d.roll(2) == 0 {
			k, v := m.load(m.simple()), m.operand()
			m.emit(impl.IRaw, base, -1-k, v)
		}
	default:
		m.called(base)
		m.emit(impl.IFirst, base, -1-base)
	}
}

// callee puts something that is called into a new register.
func (m *maker) callee() {
	switch m.d.roll(8) {
	case 0, 1, 2:
		m.anyFn()
	case 3:
		m.shared(m.d.pick(sharedOne, sharedTwo))
	case 4:
		m.value()
	default:
		m.builtin(m.d.roll(impl.Builtins))
	}
}

// called puts the list of a call's values into register base.
func (m *maker) called(base int) {
	m.callee()
	m.args(m.d.roll(4))
	m.emit(impl.ICall, base, -1-base, -1-(base+1))
	m.top = base + 1
}

// args puts a list of operands into a new register.
func (m *maker) args(count int) {
	list := m.top
	m.emit(impl.IList, list)
	m.top++
	for range count {
		x := m.operand()
		m.emit(impl.IAdd, list, x)
		m.top = list + 1
	}
	if m.d.roll(6) == 0 {
		m.emit(impl.ICopy, m.top, list)
		m.emit(impl.IJoin, list, m.d.pick(list, -1-m.top))
		m.emit(impl.IDrop, m.top)
	}
}

func (m *maker) drops(from, to int) {
	for r := from; r < to; r++ {
		m.emit(impl.IDrop, r)
	}
	m.top = from
}

// block is some statements; most of those further out stand in a guard that catches, so that others follow.
func (m *maker) block(count int) {
	m.deep++
	for range count {
		if m.d.roll(30) < []int{30, 29, 15, 6, 0, 0, 0, 0}[min(m.deep, 7)] {
			m.try(1)
		} else {
			m.statement()
		}
	}
	m.deep--
}

func (m *maker) statement() {
	if m.d.roll(2) == 0 {
		m.line++
		m.emit(m.d.pick(impl.ILine, impl.ILine, impl.IAt), 10*m.at+m.line)
	}
	base := m.top
	kinds := 22
	if m.deep > 4 {
		kinds = 14
	}
	kind := m.d.roll(kinds)
	if m.tasky && m.d.roll(2) == 0 {
		kind = 7
	}
	switch kind {
	case 0, 1:
		m.called(base)
		m.emit(impl.IDrop, base)
	case 2:
		x := m.operand()
		m.emit(impl.IMove, m.vars[m.d.roll(len(m.vars))], x)
	case 3:
		m.store()
	case 4, 5:
		v, k, x := m.operand(), m.operand(), m.operand()
		m.emit(impl.ISet, v, k, x)
	case 6:
		m.printed()
	case 7, 8, 9, 10:
		m.task()
	case 11, 12:
		m.weak()
	case 13:
		m.end()
	case 14, 15:
		m.choice()
	case 16:
		m.count()
	case 17:
		m.each()
	case 18, 19:
		m.try(1 + m.d.roll(3))
	default:
		m.scope()
	}
	m.top = base
}

// store puts something into a shared box, or into a table with no handler.
func (m *maker) store() {
	base := m.top
	switch m.d.roll(3) {
	case 0:
		m.share(m.d.pick(sharedAny, sharedOne, sharedTwo, sharedAny, sharedFn), m.operand())
	case 1:
		t, k, v := m.value(), m.operand(), m.operand()
		m.emit(impl.IRaw, t, k, v)
		m.emit(impl.IDrop, base)
	case 2:
		t, k := m.value(), m.operand()
		list := m.top
		m.args(m.d.roll(4))
		m.emit(impl.IRawAll, t, k, -1-list)
		m.emit(impl.IDrop, base)
	}
}

func (m *maker) printed() {
	base := m.top
	m.builtin(impl.BPrint)
	if m.d.roll(2) == 0 {
		m.called(base + 1)
	} else {
		m.args(1 + m.d.roll(3))
	}
	m.emit(impl.ICall, base, -1-base, -1-(base+1))
	m.emit(impl.IDrop, base)
}

// task makes, resumes, yields or gives up.
func (m *maker) task() {
	switch m.d.roll(8) {
	case 0:
		m.makeTask()
	case 1, 2, 3:
		m.yield()
	case 4, 5:
		m.makeTask()
		for range 1 + m.d.roll(3) {
			m.askTask(impl.BResume)
		}
		m.askTask(m.d.pick(impl.BGiveUp, impl.BStatus))
	default:
		m.askTask(m.d.pick(impl.BResume, impl.BResume, impl.BGiveUp, impl.BStatus))
	}
}

func (m *maker) makeTask() {
	base := m.top
	m.builtin(impl.BTask)
	m.emit(impl.IList, m.top)
	m.top++
	m.anyFn()
	m.emit(impl.IAdd, base+1, -1-(base+2))
	m.emit(impl.ICall, base, -1-base, -1-(base+1))
	m.emit(impl.IFirst, base, -1-base)
	m.share(m.d.pick(sharedTask, sharedTask, sharedTask, sharedAny), -1-base)
	m.top = base
}

func (m *maker) yield() {
	base := m.top
	m.builtin(impl.BYield)
	m.args(m.d.roll(3))
	m.emit(impl.ICall, base, -1-base, -1-(base+1))
	m.emit(impl.IDrop, base)
	m.top = base
}

// askTask prints what a builtin answers of the shared task.
func (m *maker) askTask(b int) {
	base := m.top
	m.builtin(impl.BPrint)
	m.builtin(b)
	list := m.top
	m.emit(impl.IList, list)
	m.top++
	m.shared(sharedTask)
	m.emit(impl.IAdd, list, -1-(list+1))
	m.top = list + 1
	m.emit(impl.IAdd, list, m.operand())
	m.emit(impl.ICall, base+1, -1-(base+1), -1-list)
	m.emit(impl.ICall, base, -1-base, -1-(base+1))
	m.emit(impl.IDrop, base)
	m.top = base
}

// weak puts something into the weak table, lets go of a table with a last word, or collects.
func (m *maker) weak() {
	base := m.top
	switch m.d.roll(3) {
	case 0:
		m.shared(sharedWeak)
		k := m.value()
		v := m.value()
		m.emit(impl.IRaw, base, -1-k, -1-v)
		m.emit(impl.IDrop, base)
	case 1:
		m.builtin(impl.BSetKind)
		m.emit(impl.IList, m.top)
		m.top++
		m.emit(impl.ITable, m.top)
		m.emit(impl.IAdd, base+1, -1-m.top)
		m.shared(sharedKind)
		m.emit(impl.IAdd, base+1, -1-(m.top-1))
		m.emit(impl.ICall, base, -1-base, -1-(base+1))
		if m.d.roll(2) == 0 {
			m.emit(impl.IDrop, base)
			return
		}
		m.emit(impl.IFirst, base, -1-base)
		m.share(m.d.pick(sharedOne, sharedTwo, sharedAny), -1-base)
	case 2:
		m.builtin(m.d.pick(impl.BCollect, impl.BCollect, impl.BCells))
		m.args(0)
		m.emit(impl.ICall, base, -1-base, -1-(base+1))
		m.emit(impl.IDrop, base)
	}
}

// give returns a list.
func (m *maker) give() {
	base := m.top
	m.args(m.d.roll(3))
	m.emit(impl.IReturn, m.d.pick(base, -1-base))
}

// end returns or throws, but mostly only under a condition.
func (m *maker) end() {
	base := m.top
	x := m.operand()
	jump := m.emit(m.d.pick(impl.IIf, impl.IUnless), x)
	m.top = base
	if m.d.roll(2) == 0 {
		m.give()
	} else {
		m.emit(impl.IThrow, m.operand())
	}
	m.p.Ins[jump].B = m.here()
}

func (m *maker) choice() {
	base := m.top
	x := 0
	if m.d.roll(2) == 0 {
		a, b := m.operand(), m.operand()
		m.emit(impl.IBinary, base, 13+m.d.roll(6), a, b)
		x = -1 - base
	} else {
		x = m.operand()
	}
	jump := m.emit(m.d.pick(impl.IIf, impl.IUnless), x)
	m.top = base
	m.block(1 + m.d.roll(2))
	over := m.emit(impl.IJump)
	m.p.Ins[jump].B = m.here()
	m.block(m.d.roll(2))
	m.p.Ins[over].A = m.here()
}

func (m *maker) count() {
	base := m.top
	for i := range 3 {
		if m.d.roll(5) == 0 {
			m.value()
		} else {
			m.load(number(int64([]int{m.d.roll(3), m.d.roll(6), m.d.pick(1, 1, 2, -1)}[i])))
		}
	}
	m.emit(impl.IFor, base)
	test := m.emit(impl.IForTest, base)
	m.emit(impl.ITick)
	m.emit(impl.IMove, m.vars[0], base)
	m.block(1 + m.d.roll(2))
	m.emit(impl.IForNext, base, test)
	m.p.Ins[test].B = m.here()
	m.drops(base, base+3)
}

func (m *maker) each() {
	base := m.top
	if m.d.roll(3) > 0 {
		m.shared(m.d.pick(sharedOne, sharedTwo, sharedPlain, sharedKind, sharedFn))
	} else {
		m.value()
	}
	m.emit(impl.IEach, base)
	next := m.emit(impl.IEachNext, base, 0, base+2)
	m.top = base + 2
	m.emit(impl.IPick, m.vars[0], base+2, m.d.roll(3))
	m.emit(impl.IDrop, base+2)
	m.block(1 + m.d.roll(2))
	m.emit(impl.IJump, next)
	m.p.Ins[next].B = m.here()
	m.drops(base, base+2)
}

func (m *maker) try(count int) {
	base, keep := m.top, m.keep
	guard := m.emit(impl.ITry, 0, base)
	m.guards, m.keep = append(m.guards, true), base
	m.block(count)
	m.guards, m.keep = m.guards[:len(m.guards)-1], keep
	m.emit(impl.IEndTry)
	jump := m.emit(impl.IJump)
	m.p.Ins[guard].A = m.here()
	m.top = base + 2
	if m.d.roll(2) == 0 {
		m.share(sharedAny, base)
	}
	m.builtin(impl.BPrint)
	m.args(0)
	m.emit(impl.IAdd, base+3, base)
	m.emit(impl.IAdd, base+3, base+1)
	m.emit(impl.ICall, base+2, -1-(base+2), -1-(base+3))
	m.drops(base, base+3)
	m.p.Ins[jump].A = m.here()
}

func (m *maker) scope() {
	m.emit(impl.IScope, m.keep+m.d.roll(m.p.Regs-m.keep+1))
	m.guards = append(m.guards, false)
	for range 1 + m.d.roll(3) {
		base := m.top
		m.callee()
		m.args(m.d.roll(3))
		m.emit(impl.IDefer, -1-base, -1-(base+1))
		m.top = base
		m.block(m.d.roll(2))
	}
	if m.d.roll(3) == 0 {
		m.emit(impl.IKeep, m.keep+m.d.roll(m.p.Regs-m.keep+1))
	}
	m.block(m.d.roll(2))
	m.guards = m.guards[:len(m.guards)-1]
	m.emit(impl.ILeave)
}

// madeInput is one that lets some codes come to their end and others not.
func (d *dice) madeInput() impl.Input {
	in := impl.Input{Ticks: d.pick(d.roll(80), 150, 500), Depth: 1 + d.roll(9), Cells: d.pick(d.roll(200), 150, 300, 3000)}
	for i := range d.roll(4) {
		in.Args = append(in.Args, strconv.Itoa(i))
		in.Lines = append(in.Lines, "line "+strconv.Itoa(i))
	}
	return in
}
