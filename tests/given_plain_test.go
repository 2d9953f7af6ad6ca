package tests

import (
	"cmp"
	"math"
	"slices"

	"loop.example/loom/impl"
)

// A second reading of 1.3 to 1.5, instruction by instruction, slow and with
// no tables: what CheckCode answers is held against it.

func plainCheck(c impl.Code) impl.Fault {
	if faults := plainShapeFaults(c); len(faults) > 0 {
		return slices.MinFunc(faults, func(a, b impl.Fault) int {
			return cmp.Or(a.Code-b.Code, a.Proto-b.Proto, a.At-b.At)
		})
	}
	for p := range c.Protos {
		if f := plainVerify(c, p); f.Code != 0 {
			return f
		}
	}
	return impl.Fault{}
}

func plainShapeFaults(c impl.Code) []impl.Fault {
	var out []impl.Fault
	tell := func(bad bool, code, p, at int) {
		if bad {
			out = append(out, impl.Fault{Code: code, Proto: p, At: at})
		}
	}
	total, made := 0, map[int]int{}
	for _, p := range c.Protos {
		total += len(p.Ins)
	}
	tell(len(c.Protos) == 0 || len(c.Protos) > 200 || total > 6000, 1, 0, 0)
	for n, p := range c.Protos {
		most := p.Regs
		if p.Rest {
			most = p.Regs - 1
		}
		tell(len(p.Name) > 40 || p.Line < 0 || p.Line > 100000 || p.Regs < 0 || p.Regs > 250 || p.Params < 0 || p.Params > most || len(p.Ups) > 250 || len(p.Consts) > 500, 2, n, 0)
		tell(n == 0 && (p.Params != 0 || len(p.Ups) != 0), 2, n, 0)
		for i, v := range p.Consts {
			tell(!plainConst(v), 3, n, i)
		}
		for i, x := range p.Named {
			tell(x.Name == "" || len(x.Name) > 40 || x.Reg < 0 || x.Reg >= p.Regs || x.From < 0 || x.To < x.From || x.To > len(p.Ins) || i == 500, 4, n, i)
		}
		tell(len(p.Ins) == 0, 5, n, 0)
		for i, ins := range p.Ins {
			tell(!plainIns(c, p, ins), 5, n, i)
			ends := ins.Op == impl.IJump || ins.Op == impl.IReturn || ins.Op == impl.IThrow
			tell(i == len(p.Ins)-1 && !ends, 5, n, i)
			if ins.Op != impl.IFn || ins.B < 0 || ins.B >= len(c.Protos) {
				continue
			}
			made[ins.B]++
			tell(ins.B <= n || made[ins.B] > 1, 6, n, i)
			for _, u := range c.Protos[ins.B].Ups {
				tell(u.Index < 0 || u.Local && u.Index >= p.Regs || !u.Local && u.Index >= len(p.Ups), 6, n, i)
			}
		}
	}
	for n := range c.Protos {
		tell(n > 0 && made[n] == 0, 7, n, 0)
	}
	return out
}

func plainConst(v impl.Value) bool {
	noFlt := math.Float64bits(v.Flt) == 0
	switch v.Kind {
	case impl.KNil:
		return v.Num == 0 && noFlt && v.Str == "" && v.Ref == 0
	case impl.KBool:
		return v.Num>>1 == 0 && noFlt && v.Str == "" && v.Ref == 0
	case impl.KInt:
		return noFlt && v.Str == "" && v.Ref == 0
	case impl.KFlt:
		return v.Flt == v.Flt && v.Num == 0 && v.Str == "" && v.Ref == 0
	case impl.KStr:
		return len(v.Str) <= 4000 && noFlt && v.Num == 0 && v.Ref == 0
	case impl.KBuiltin:
		return v.Num >= 0 && v.Num <= 14 && noFlt && v.Str == "" && v.Ref == 0
	}
	return false
}

// plainIns asks each field of an instruction by what its Op is; zero tells that the fields behind are 0.
func plainIns(c impl.Code, p impl.Proto, x impl.Ins) bool {
	place := func(r int) bool { return r >= 0 && r < p.Regs }
	in := func(r int) bool { return r >= 0 && r < p.Regs || r < 0 && r >= -p.Regs }
	ins := func(i int) bool { return i >= 0 && i < len(p.Ins) }
	b, cc, d := x.B == 0, x.C == 0, x.D == 0
	switch x.Op {
	case impl.ILine:
		return x.A >= 1 && x.A <= 100000 && b && cc && d
	case impl.IAt:
		return x.A >= 0 && x.A <= 100000 && b && cc && d
	case impl.ITick, impl.IEndTry, impl.ILeave:
		return x.A == 0 && b && cc && d
	case impl.IConst:
		return place(x.A) && x.B >= 0 && x.B < len(p.Consts) && cc && d
	case impl.IMove, impl.IBox, impl.IPut, impl.IAdd, impl.IJoin, impl.IFirst:
		return place(x.A) && in(x.B) && cc && d
	case impl.IGet, impl.ICopy:
		return place(x.A) && place(x.B) && cc && d
	case impl.IUpGet:
		return place(x.A) && x.B >= 0 && x.B < len(p.Ups) && cc && d
	case impl.IUpPut:
		return x.A >= 0 && x.A < len(p.Ups) && in(x.B) && cc && d
	case impl.IFn:
		return place(x.A) && x.B >= 0 && x.B < len(c.Protos) && cc && d
	case impl.ITable, impl.IList, impl.IDrop:
		return place(x.A) && b && cc && d
	case impl.IRaw, impl.IRawAll, impl.IIndex, impl.ICall:
		return place(x.A) && in(x.B) && in(x.C) && d
	case impl.ISet:
		return in(x.A) && in(x.B) && in(x.C) && d
	case impl.IUnary:
		return place(x.A) && x.B >= 19 && x.B <= 22 && in(x.C) && d
	case impl.IBinary:
		return place(x.A) && x.B >= 1 && x.B <= 18 && in(x.C) && in(x.D)
	case impl.IJump:
		return ins(x.A) && b && cc && d
	case impl.IIf, impl.IUnless:
		return in(x.A) && ins(x.B) && cc && d
	case impl.IPick:
		return place(x.A) && place(x.B) && x.C >= 0 && x.C <= 250 && d
	case impl.IReturn, impl.IThrow:
		return in(x.A) && b && cc && d
	case impl.ITry:
		return ins(x.A) && x.B >= 0 && x.B <= p.Regs-2 && cc && d
	case impl.IScope, impl.IKeep:
		return x.A >= 0 && x.A <= p.Regs && b && cc && d
	case impl.IDefer:
		return in(x.A) && in(x.B) && cc && d
	case impl.IFor:
		return place(x.A) && place(x.A+2) && b && cc && d
	case impl.IForTest, impl.IForNext:
		return place(x.A) && place(x.A+2) && ins(x.B) && cc && d
	case impl.IEach:
		return place(x.A) && place(x.A+1) && b && cc && d
	case impl.IEachNext:
		return place(x.A) && place(x.A+1) && ins(x.B) && place(x.C) && d
	}
	return false
}

// plainLook is what is known while an instruction is gone through.
type plainLook struct {
	c      impl.Code
	proto  impl.Proto
	types  []int
	guards []impl.Guard
	ok     bool
	places map[int]int
	took   []int
}

func (l *plainLook) place(r, want int) {
	l.ok = l.ok && l.types[r] == want
	l.places[r]++
}

func (l *plainLook) in(x, want int) {
	r := x
	if x < 0 {
		r = -1 - x
	}
	l.ok = l.ok && l.types[r] == want
	if x < 0 {
		l.ok = l.ok && l.places[r] == 0
		l.types[r] = impl.TNone
		l.took = append(l.took, r)
	}
}

// run reads and puts as the instruction does.
func (l *plainLook) run(x impl.Ins) {
	const value, box, list = impl.TValue, impl.TBox, impl.TList
	switch x.Op {
	case impl.IConst, impl.IUpGet, impl.ITable:
		l.types[x.A] = value
	case impl.IMove:
		l.in(x.B, value)
		l.types[x.A] = value
	case impl.IBox:
		l.in(x.B, value)
		l.types[x.A] = box
	case impl.IGet:
		l.place(x.B, box)
		l.types[x.A] = value
	case impl.IPut:
		l.place(x.A, box)
		l.in(x.B, value)
	case impl.IUpPut:
		l.in(x.B, value)
	case impl.IFn:
		for _, u := range l.c.Protos[x.B].Ups {
			if u.Local {
				l.place(u.Index, box)
			}
		}
		l.types[x.A] = value
	case impl.IRaw:
		l.place(x.A, value)
		l.in(x.B, value)
		l.in(x.C, value)
	case impl.IRawAll:
		l.place(x.A, value)
		l.in(x.B, value)
		l.in(x.C, list)
	case impl.IIndex:
		l.in(x.B, value)
		l.in(x.C, value)
		l.types[x.A] = value
	case impl.ISet:
		l.in(x.A, value)
		l.in(x.B, value)
		l.in(x.C, value)
	case impl.IUnary:
		l.in(x.C, value)
		l.types[x.A] = value
	case impl.IBinary:
		l.in(x.C, value)
		l.in(x.D, value)
		l.types[x.A] = value
	case impl.IIf, impl.IUnless, impl.IThrow:
		l.in(x.A, value)
	case impl.IList:
		l.types[x.A] = list
	default:
		l.runMore(x)
	}
}

func (l *plainLook) runMore(x impl.Ins) {
	const value, list = impl.TValue, impl.TList
	switch x.Op {
	case impl.IAdd:
		l.place(x.A, list)
		l.in(x.B, value)
	case impl.IJoin:
		l.place(x.A, list)
		l.in(x.B, list)
	case impl.IFirst:
		l.in(x.B, list)
		l.types[x.A] = value
	case impl.IPick:
		l.place(x.B, list)
		l.types[x.A] = value
	case impl.ICopy:
		l.place(x.B, list)
		l.types[x.A] = list
	case impl.ICall:
		l.in(x.B, value)
		l.in(x.C, list)
		l.types[x.A] = list
	case impl.IReturn:
		l.in(x.A, list)
	case impl.IDefer:
		l.in(x.A, value)
		l.in(x.B, list)
	case impl.IFor, impl.IForTest, impl.IForNext:
		l.place(x.A, value)
		l.place(x.A+1, value)
		l.place(x.A+2, value)
	case impl.IEach:
		l.place(x.A, value)
		l.place(x.A+1, impl.TNone)
		l.took = append(l.took, x.A)
		l.types[x.A+1] = value
	case impl.IEachNext:
		l.place(x.A, value)
		l.place(x.A+1, value)
		l.types[x.C] = list
	case impl.IDrop:
		l.types[x.A] = impl.TNone
	}
}

// guard does what an instruction does to the guards, and tells whether it may.
func (l *plainLook) guard(x impl.Ins) bool {
	n := len(l.guards)
	keepFits := func(keep int) bool {
		return !slices.ContainsFunc(l.guards, func(g impl.Guard) bool { return g.Try && keep < g.Keep })
	}
	switch x.Op {
	case impl.ITry:
		if n >= 50 || !keepFits(x.B) {
			return false
		}
		l.guards = append(l.guards, impl.Guard{Try: true, Keep: x.B, Handler: x.A})
	case impl.IScope:
		if n >= 50 || !keepFits(x.A) {
			return false
		}
		l.guards = append(l.guards, impl.Guard{Keep: x.A})
	case impl.IEndTry:
		if n == 0 || !l.guards[n-1].Try {
			return false
		}
		l.guards = l.guards[:n-1]
	case impl.IKeep, impl.IDefer, impl.ILeave:
		if n == 0 || l.guards[n-1].Try {
			return false
		}
		if x.Op == impl.IKeep {
			l.guards[n-1].Keep = x.A
			return keepFits(x.A)
		}
		if x.Op == impl.ILeave {
			l.guards = l.guards[:n-1]
		}
	}
	return true
}

// plainStep is the state behind an instruction, or the code of the fault there.
func plainStep(c impl.Code, p impl.Proto, x impl.Ins, s impl.State) (impl.State, int) {
	l := &plainLook{c: c, proto: p, types: slices.Clone(s.Types), guards: slices.Clone(s.Guards), ok: true, places: map[int]int{}}
	l.run(x)
	if !l.ok {
		return impl.State{}, 10
	}
	if !l.guard(x) {
		return impl.State{}, 11
	}
	for _, g := range s.Guards {
		for r := 0; g.Try && r < g.Keep; r++ {
			if slices.Contains(l.took, r) || l.types[r] != s.Types[r] {
				return impl.State{}, 12
			}
		}
	}
	return impl.State{Reached: true, Types: l.types, Guards: l.guards}, 0
}

// plainTo is the instruction that x may go on at, with the state there; -1 when there is none.
func plainTo(x impl.Ins, ahead, behind impl.State) (int, impl.State) {
	switch x.Op {
	case impl.IJump:
		return x.A, behind
	case impl.IIf, impl.IUnless, impl.IForTest, impl.IForNext:
		return x.B, behind
	case impl.IEachNext:
		return x.B, ahead
	case impl.ITry:
		s := impl.State{Reached: true, Types: slices.Clone(ahead.Types), Guards: ahead.Guards}
		for r := range s.Types {
			if r >= x.B {
				s.Types[r] = impl.TNone
			}
			if r == x.B || r == x.B+1 {
				s.Types[r] = impl.TValue
			}
		}
		return x.A, s
	}
	return -1, impl.State{}
}

func plainFirst(p impl.Proto) impl.State {
	s := impl.State{Reached: true, Types: make([]int, p.Regs)}
	for r := range s.Types {
		if r < p.Params {
			s.Types[r] = impl.TValue
		} else if r == p.Params && p.Rest {
			s.Types[r] = impl.TList
		}
	}
	return s
}

func plainSame(a, b impl.State) bool {
	return slices.Equal(a.Types, b.Types) && slices.Equal(a.Guards, b.Guards)
}

func plainVerify(c impl.Code, n int) impl.Fault {
	_, f := plainStates(c, n)
	return f
}

// plainStates is what is known ahead of each instruction that is reached, and the first fault.
func plainStates(c impl.Code, n int) (map[int]impl.State, impl.Fault) {
	p := c.Protos[n]
	states, todo, silent := map[int]impl.State{0: plainFirst(p)}, []int{0}, map[int][]int{}
	for len(todo) > 0 {
		slices.Sort(todo)
		at := todo[0]
		todo = todo[1:]
		x, ahead := p.Ins[at], states[at]
		behind, code := plainStep(c, p, x, ahead)
		if code != 0 {
			return nil, impl.Fault{Code: code, Proto: n, At: at}
		}
		next, nexts := []int{}, []impl.State{}
		if x.Op != impl.IJump && x.Op != impl.IReturn && x.Op != impl.IThrow {
			next, nexts = append(next, at+1), append(nexts, behind)
		}
		if to, s := plainTo(x, ahead, behind); to >= 0 {
			next, nexts = append(next, to), append(nexts, s)
		}
		for i, to := range next {
			if old, ok := states[to]; !ok {
				states[to] = nexts[i]
				todo = append(todo, to)
			} else if !plainSame(old, nexts[i]) {
				return nil, impl.Fault{Code: 13, Proto: n, At: to}
			}
		}
		silent[at] = plainSilent(x, next)
	}
	for at := range p.Ins {
		if plainLeads(silent, at) {
			return nil, impl.Fault{Code: 14, Proto: n, At: at}
		}
	}
	return states, impl.Fault{}
}

func plainSilent(x impl.Ins, next []int) []int {
	switch x.Op {
	case impl.ILine, impl.ITick, impl.ICall:
		return nil
	case impl.IBinary:
		if x.B == impl.OpJoin {
			return nil
		}
	case impl.IEachNext:
		return []int{x.B}
	}
	return next
}

// plainLeads tells whether silent steps lead from an instruction back to it.
func plainLeads(silent map[int][]int, from int) bool {
	seen, todo := map[int]bool{}, slices.Clone(silent[from])
	for len(todo) > 0 {
		at := todo[0]
		todo = todo[1:]
		if at == from {
			return true
		}
		if !seen[at] {
			seen[at] = true
			todo = append(todo, silent[at]...)
		}
	}
	return false
}
