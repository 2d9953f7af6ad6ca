package tests

import (
	"math"
	"reflect"
	"slices"
	"testing"

	"loop.example/loom/impl"
)

// dice gives numbers that look like chance and are the same in every run.
type dice uint64

func (d *dice) roll(n int) int {
	*d = *d*6364136223846793005 + 1442695040888963407
	return int(uint64(*d)>>33) % n
}

func (d *dice) pick(xs ...int) int { return xs[d.roll(len(xs))] }

// anyIns is an instruction whose fields name what there may be, of the kinds of fieldsOfOps.
func (d *dice) anyIns(regs, ins int) impl.Ins {
	op := 1 + d.roll(impl.ILast)
	reg := d.roll(regs)
	operand := func() int { return d.pick(d.roll(regs), -1-d.roll(regs)) }
	switch op {
	case impl.ILine, impl.IAt:
		return impl.Ins{Op: op, A: 1 + d.roll(9)}
	case impl.ITick, impl.IEndTry, impl.ILeave:
		return impl.Ins{Op: op}
	case impl.IConst:
		return impl.Ins{Op: op, A: reg, B: d.roll(2)}
	case impl.IMove, impl.IBox, impl.IPut, impl.IAdd, impl.IJoin, impl.IFirst:
		return impl.Ins{Op: op, A: reg, B: operand()}
	case impl.IGet, impl.ICopy:
		return impl.Ins{Op: op, A: reg, B: d.roll(regs)}
	case impl.IRaw, impl.IRawAll, impl.IIndex, impl.ICall:
		return impl.Ins{Op: op, A: reg, B: operand(), C: operand()}
	case impl.ISet:
		return impl.Ins{Op: op, A: operand(), B: operand(), C: operand()}
	case impl.IUnary:
		return impl.Ins{Op: op, A: reg, B: 19 + d.roll(4), C: operand()}
	case impl.IBinary:
		return impl.Ins{Op: op, A: reg, B: 1 + d.roll(18), C: operand(), D: operand()}
	case impl.IIf, impl.IUnless:
		return impl.Ins{Op: op, A: operand(), B: d.roll(ins)}
	case impl.ITable, impl.IList, impl.IDrop:
		return impl.Ins{Op: op, A: reg}
	case impl.IPick:
		return impl.Ins{Op: op, A: reg, B: d.roll(regs), C: d.roll(5)}
	case impl.ITry:
		return impl.Ins{Op: op, A: d.roll(ins), B: d.roll(regs - 1)}
	case impl.IScope, impl.IKeep:
		return impl.Ins{Op: op, A: d.roll(regs + 1)}
	case impl.IDefer:
		return impl.Ins{Op: op, A: operand(), B: operand()}
	case impl.IFor:
		return impl.Ins{Op: op, A: d.roll(regs - 2)}
	case impl.IForTest, impl.IForNext:
		return impl.Ins{Op: op, A: d.roll(regs - 2), B: d.roll(ins)}
	case impl.IEach:
		return impl.Ins{Op: op, A: d.roll(regs - 1)}
	case impl.IEachNext:
		return impl.Ins{Op: op, A: d.roll(regs - 1), B: d.roll(ins), C: reg}
	}
	return impl.Ins{Op: impl.IConst, A: reg}
}

// stepping is a list of instructions that is being made, with the states along it.
type stepping struct {
	c      impl.Code
	p      impl.Proto
	states []impl.State
}

// add puts an instruction behind the others, unless it is a fault there.
func (s *stepping) add(x impl.Ins) bool {
	ahead := s.states[len(s.states)-1]
	behind, code := plainStep(s.c, s.p, x, ahead)
	if code == 0 {
		s.p.Ins = append(s.p.Ins, x)
		s.states = append(s.states, behind)
	}
	return code == 0
}

// drawing gives an instruction to put behind those of a list, of which there will be n.
type drawing func(s *stepping, n int) impl.Ins

func (d *dice) draw(s *stepping, n int) impl.Ins { return d.anyIns(s.p.Regs, n) }

// proto is one with n instructions, in which each fits what those ahead leave; jumps lead, where they can, to where their states are.
func (d *dice) proto(c impl.Code, head impl.Proto, n int, draw drawing) impl.Proto {
	s := &stepping{c: c, p: head, states: []impl.State{plainFirst(head)}}
	for i, x := range head.Ins { // those that make fns
		s.p.Ins = head.Ins[:i]
		s.add(x)
	}
	for tries := 0; len(s.p.Ins) < n && tries < 60*n; tries++ {
		s.add(draw(s, n))
	}
	ret := d.roll(head.Regs)
	s.p.Ins = append(s.p.Ins, impl.Ins{Op: impl.IList, A: ret}, impl.Ins{Op: impl.IReturn, A: ret})
	for at := range s.states[:len(s.states)-1] {
		d.aim(s, at)
	}
	return s.p
}

// aim sets where an instruction goes on.
func (d *dice) aim(s *stepping, at int) {
	x := &s.p.Ins[at]
	to, there := plainTo(*x, s.states[at], s.states[at+1])
	if to < 0 {
		return
	}
	if x.Op == impl.ITry && d.roll(4) > 0 {
		x.A = len(s.p.Ins)
		s.p.Ins = append(s.p.Ins, impl.Ins{Op: impl.IThrow, A: x.B + d.roll(2)})
		for i, g := range s.states {
			for j := range g.Guards {
				if g.Guards[j].Try && g.Guards[j].Keep == x.B && i > at {
					s.states[i].Guards[j].Handler = x.A
				}
			}
		}
		return
	}
	fits := []int{}
	for i, other := range s.states {
		if plainSame(other, there) {
			fits = append(fits, i)
		}
	}
	if len(fits) > 0 && d.roll(8) > 0 {
		to = fits[d.roll(len(fits))]
	}
	if x.Op == impl.ITry || x.Op == impl.IJump {
		x.A = to
	} else {
		x.B = to
	}
}

// code is one of a few protos; many of them are verified.
func (d *dice) code() impl.Code { return d.codeOf(d.draw) }

func (d *dice) codeOf(draw drawing) impl.Code {
	c := impl.Code{Protos: make([]impl.Proto, 1+d.roll(3))}
	for p := range c.Protos {
		head := &c.Protos[p]
		head.Regs, head.Consts = 3+d.roll(4), []impl.Value{number(1), text("a")}
		if p > 0 {
			head.Params, head.Rest = d.roll(3), d.roll(2) == 0
			for range d.roll(2) {
				head.Ups = append(head.Ups, impl.Up{Local: true, Index: d.roll(2)})
			}
		}
	}
	for p := range c.Protos {
		head := c.Protos[p]
		if p+1 < len(c.Protos) {
			head.Ins = []impl.Ins{
				{Op: impl.IConst, A: 2}, {Op: impl.IBox, A: 0, B: 2}, {Op: impl.IBox, A: 1, B: 2}, {Op: impl.IFn, A: 2, B: p + 1},
			}
		}
		c.Protos[p] = d.proto(c, head, len(head.Ins)+1+d.roll(14), draw)
	}
	return c
}

// spoil changes one thing somewhere.
func (d *dice) spoil(c *impl.Code) {
	p := &c.Protos[d.roll(len(c.Protos))]
	x := d.pick(-1, 0, 1, 2, 3, d.roll(12), -d.roll(9), d.roll(9), huge, tiny)
	switch d.roll(20) {
	case 0:
		fields := []*int{&p.Line, &p.Params, &p.Regs}
		*fields[d.roll(len(fields))] = x
	case 1:
		p.Consts = append(p.Consts, impl.Value{Kind: x, Num: int64(d.roll(3))}, float(math.Copysign(0, -1)))
	case 2:
		p.Named = append(p.Named, impl.Named{Name: long(d.roll(42)), Reg: x, From: d.roll(3), To: d.roll(9)})
	case 3:
		p.Ups = append(p.Ups, impl.Up{Local: d.roll(2) == 0, Index: x})
	case 4:
		p.Ins = p.Ins[:len(p.Ins)-d.roll(2)]
	case 5:
		c.Protos = c.Protos[:d.roll(len(c.Protos)+1)]
	case 6:
		c.Protos = append(c.Protos, c.Protos[0])
	case 7, 8, 9:
		p.Ins[d.roll(len(p.Ins)-1)] = d.anyIns(3, len(p.Ins))
	case 10, 11:
		p.Ins[d.roll(len(p.Ins)-1)] = impl.Ins{Op: d.pick(impl.IScope, impl.IEndTry, impl.IKeep, impl.ILeave)}
	default:
		ins := &p.Ins[d.roll(len(p.Ins))]
		fields := []*int{&ins.Op, &ins.A, &ins.B, &ins.C, &ins.D, &ins.A, &ins.B}
		*fields[d.roll(len(fields))] = x
	}
}

func copyCode(c impl.Code) impl.Code {
	c.Protos = slices.Clone(c.Protos)
	for i := range c.Protos {
		p := &c.Protos[i]
		p.Ups, p.Consts, p.Ins, p.Named = slices.Clone(p.Ups), slices.Clone(p.Consts), slices.Clone(p.Ins), slices.Clone(p.Named)
	}
	return c
}

func TestManyCodes(t *testing.T) {
	d, seen := dice(1), map[int]int{}
	for n := range 12000 {
		c := d.code()
		for range d.roll(3) {
			if len(c.Protos) > 0 && !slices.ContainsFunc(c.Protos, func(p impl.Proto) bool { return len(p.Ins) == 0 }) {
				d.spoil(&c)
			}
		}
		kept := copyCode(c)
		got, want := impl.CheckCode(c), plainCheck(c)
		seen[got.Code]++
		if got != want {
			t.Fatalf("code %d: got %v, want %v\n%+v", n, got, want, c)
		}
		if !reflect.DeepEqual(c, kept) {
			t.Fatalf("code %d was written into", n)
		}
		if again := impl.CheckCode(kept); again != got {
			t.Fatalf("code %d: %v, then %v", n, got, again)
		}
	}
	for _, code := range []int{0, 1, 2, 3, 4, 5, 6, 7, 10, 11, 12, 13, 14} {
		if seen[code] < 20 {
			t.Errorf("only %d of the codes have fault %d", seen[code], code)
		}
	}
	t.Log(seen)
}

// Codes of numbers that mean nothing must be answered too.
func TestWildCodes(t *testing.T) {
	d := dice(2)
	wild := func() int { return d.pick(0, 1, 2, 5, -1, -3, d.roll(50), huge, tiny, huge-1, tiny+1, 250, 251) }
	for range 5000 {
		c := impl.Code{Protos: make([]impl.Proto, d.roll(4))}
		for i := range c.Protos {
			p := impl.Proto{Name: long(d.roll(50)), Line: wild(), Params: wild(), Rest: d.roll(2) == 0, Regs: wild()}
			for range d.roll(3) {
				p.Ups = append(p.Ups, impl.Up{Local: d.roll(2) == 0, Index: wild()})
				p.Consts = append(p.Consts, impl.Value{Kind: wild(), Num: int64(wild()), Ref: wild()})
				p.Named = append(p.Named, impl.Named{Name: "a", Reg: wild(), From: wild(), To: wild()})
				p.Ins = append(p.Ins, impl.Ins{Op: wild(), A: wild(), B: wild(), C: wild(), D: wild()})
			}
			c.Protos[i] = p
		}
		if got, want := impl.CheckCode(c), plainCheck(c); got != want {
			t.Fatalf("got %v, want %v\n%+v", got, want, c)
		}
	}
}
