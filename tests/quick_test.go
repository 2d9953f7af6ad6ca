package tests

import (
	"reflect"
	"slices"
	"strings"
	"testing"

	"loop.example/loom/impl"
)

// asleep is a verified code whose instructions, but for the first two and the last one, nobody comes to,
// so that their operands need not hold anything.
func asleep(ins ...impl.Ins) impl.Code {
	c := bare(6, slices.Concat(back(), ins, []impl.Ins{{Op: impl.IJump}})...)
	c.Protos[0].Consts = []impl.Value{number(7), text("a"), {}, float(1.5), text(""), {Kind: impl.KBuiltin, Num: 3}}
	return c
}

// wantQuick holds the quick instructions from number 2 on of such a code against those that are wanted.
func wantQuick(t *testing.T, name string, c impl.Code, want ...impl.QIns) {
	t.Helper()
	if f := impl.CheckCode(c); f.Code != 0 {
		t.Fatalf("%s: %v", name, f)
	}
	got := impl.Prepare(c).Protos[0].Ins
	if len(got) != len(c.Protos[0].Ins) {
		t.Fatalf("%s: %d quick instructions", name, len(got))
	}
	for i, x := range want {
		if got[2+i] != x {
			t.Errorf("%s, instruction %d: got %v, want %v", name, 2+i, got[2+i], x)
		}
	}
}

func drop(r int) impl.Ins { return impl.Ins{Op: impl.IDrop, A: r} }

func TestQuickDrops(t *testing.T) {
	drops := func(a, n int) impl.QIns { return impl.QIns{Op: impl.QDrops, A: a, B: n} }
	wantQuick(t, "three", asleep(drop(2), drop(3), drop(4)), drops(2, 3), drops(3, 2), own(drop(4)))
	wantQuick(t, "two", asleep(drop(0), drop(1)), drops(0, 2), own(drop(1)), impl.QIns{Op: impl.IJump})
	wantQuick(t, "one", asleep(drop(5)), own(drop(5)), impl.QIns{Op: impl.IJump})
	wantQuick(t, "downwards", asleep(drop(3), drop(2)), own(drop(3)), own(drop(2)))
	wantQuick(t, "the same twice", asleep(drop(3), drop(3)), own(drop(3)), own(drop(3)))
	wantQuick(t, "one left out", asleep(drop(1), drop(3)), own(drop(1)), own(drop(3)))
	wantQuick(t, "a run that ends", asleep(drop(0), drop(1), drop(3), drop(4)), drops(0, 2), own(drop(1)), drops(3, 2), own(drop(4)))
	tick := impl.Ins{Op: impl.ITick}
	wantQuick(t, "one between", asleep(drop(0), tick, drop(1)), own(drop(0)), own(tick), own(drop(1)))
}

func TestQuickDropsJumpedInto(t *testing.T) {
	c := bare(4,
		impl.Ins{Op: impl.IConst, A: 3, B: 0},
		impl.Ins{Op: impl.ITick},
		impl.Ins{Op: impl.IIf, A: -4, B: 4},
		drop(0), drop(1), drop(2), back()[0], back()[1])
	want := []impl.QIns{{Op: impl.IIf, A: -4, B: 4}, {Op: impl.QDrops, A: 0, B: 3}, {Op: impl.QDrops, A: 1, B: 2}, {Op: impl.IDrop, A: 2}}
	wantQuick(t, "jumped into", c, want...)
}

func TestQuickDropsOfAllRegisters(t *testing.T) {
	c := bare(impl.MaxRegs)
	for r := range impl.MaxRegs {
		c.Protos[0].Ins = append(c.Protos[0].Ins, drop(r))
	}
	c.Protos[0].Ins = append(c.Protos[0].Ins, back()...)
	got := impl.Prepare(c).Protos[0].Ins
	for r := range impl.MaxRegs - 1 {
		if want := (impl.QIns{Op: impl.QDrops, A: r, B: impl.MaxRegs - r}); got[r] != want {
			t.Fatalf("got %v, want %v", got[r], want)
		}
	}
	if got[impl.MaxRegs-1] != own(drop(impl.MaxRegs-1)) {
		t.Error(got[impl.MaxRegs-1])
	}
}

func TestQuickTest(t *testing.T) {
	for op := impl.OpAdd; op <= impl.OpGe; op++ {
		n := impl.Ins{Op: impl.IBinary, A: 3, B: op, C: 1, D: -3}
		yes, no := impl.Ins{Op: impl.IIf, A: -4, B: 1}, impl.Ins{Op: impl.IUnless, A: -4, B: 1}
		wantIf, wantUnless := own(n), own(n)
		if op >= 13 {
			wantIf = impl.QIns{Op: impl.QTest, A: 3, B: op, C: 1, D: -3, E: 1, F: 1}
			wantUnless = impl.QIns{Op: impl.QTest, A: 3, B: op, C: 1, D: -3, E: 1}
		}
		wantQuick(t, "if", asleep(n, yes), wantIf, own(yes))
		wantQuick(t, "unless", asleep(n, no), wantUnless, own(no))
	}
	n := impl.Ins{Op: impl.IBinary, A: 3, B: impl.OpLt, C: 3, D: -4}
	wantQuick(t, "all one register", asleep(n, impl.Ins{Op: impl.IUnless, A: -4, B: 5}, impl.Ins{Op: impl.ITick}),
		impl.QIns{Op: impl.QTest, A: 3, B: impl.OpLt, C: 3, D: -4, E: 5})
	n = impl.Ins{Op: impl.IBinary, A: 0, B: impl.OpNe, C: 0, D: 0}
	wantQuick(t, "register 0", asleep(n, impl.Ins{Op: impl.IIf, A: -1}), impl.QIns{Op: impl.QTest, B: impl.OpNe, F: 1})
}

func TestQuickTestMissed(t *testing.T) {
	n := impl.Ins{Op: impl.IBinary, A: 3, B: impl.OpEq, C: 1, D: 2}
	for name, x := range map[string]impl.Ins{
		"only read":               {Op: impl.IIf, A: 3, B: 1},
		"only read, unless":       {Op: impl.IUnless, A: 3, B: 1},
		"another one is taken":    {Op: impl.IIf, A: -3, B: 1},
		"the one above is taken":  {Op: impl.IUnless, A: -5, B: 1},
		"no jump, though a taker": {Op: impl.IThrow, A: -4},
		"taken by a move":         {Op: impl.IMove, A: 0, B: -4},
	} {
		wantQuick(t, name, asleep(n, x), own(n), own(x))
	}
	tick := impl.Ins{Op: impl.ITick}
	wantQuick(t, "one between", asleep(n, tick, impl.Ins{Op: impl.IIf, A: -4, B: 1}), own(n), own(tick))
	unary := impl.Ins{Op: impl.IUnary, A: 3, B: impl.OpNot, C: 1}
	wantQuick(t, "unary", asleep(unary, impl.Ins{Op: impl.IIf, A: -4, B: 1}), own(unary))
}

func TestQuickWith(t *testing.T) {
	n := impl.Ins{Op: impl.IConst, A: 2, B: 3}
	for _, other := range []int{0, 1, 3, -1, -2, -4, -6} {
		for _, op := range []int{impl.OpAdd, impl.OpJoin, impl.OpEq, impl.OpGe} {
			left := impl.Ins{Op: impl.IBinary, A: 4, B: op, C: -3, D: other}
			wantQuick(t, "left", asleep(n, left), impl.QIns{Op: impl.QWith, A: 4, B: op, C: other, D: 3, E: 1, F: 2}, own(left))
			right := impl.Ins{Op: impl.IBinary, A: 2, B: op, C: other, D: -3}
			wantQuick(t, "right", asleep(n, right), impl.QIns{Op: impl.QWith, A: 2, B: op, C: other, D: 3, F: 2}, own(right))
		}
	}
	for k := range 6 {
		n.B = k
		x := impl.Ins{Op: impl.IBinary, A: 0, B: impl.OpSub, C: 1, D: -3}
		wantQuick(t, "any const", asleep(n, x), impl.QIns{Op: impl.QWith, B: impl.OpSub, C: 1, D: k, F: 2})
	}
}

func TestQuickWithMissed(t *testing.T) {
	n := impl.Ins{Op: impl.IConst, A: 2, B: 1}
	for name, x := range map[string]impl.Ins{
		"left only reads":          {Op: impl.IBinary, A: 4, B: impl.OpAdd, C: 2, D: 1},
		"right only reads":         {Op: impl.IBinary, A: 4, B: impl.OpAdd, C: 1, D: 2},
		"both read":                {Op: impl.IBinary, A: 4, B: impl.OpAdd, C: 2, D: 2},
		"left reads, right takes":  {Op: impl.IBinary, A: 4, B: impl.OpAdd, C: 2, D: -3},
		"left takes, right reads":  {Op: impl.IBinary, A: 4, B: impl.OpAdd, C: -3, D: 2},
		"both take":                {Op: impl.IBinary, A: 4, B: impl.OpAdd, C: -3, D: -3},
		"others are taken":         {Op: impl.IBinary, A: 4, B: impl.OpAdd, C: -2, D: -4},
		"only the place is that":   {Op: impl.IBinary, A: 2, B: impl.OpAdd, C: 0, D: 1},
		"unary":                    {Op: impl.IUnary, A: 4, B: impl.OpNeg, C: -3},
		"a set":                    {Op: impl.ISet, A: 0, B: -3, C: 1},
		"another const":            {Op: impl.IConst, A: 3, B: 1},
		"index, which only reads":  {Op: impl.IIndex, A: 4, B: 0, C: 2},
		"index of the const":       {Op: impl.IIndex, A: 4, B: -3, C: 0},
		"index of it, at it":       {Op: impl.IIndex, A: 4, B: 2, C: -3},
		"index of it, at it, both": {Op: impl.IIndex, A: 4, B: -3, C: -3},
		"index at another one":     {Op: impl.IIndex, A: 2, B: 0, C: -4},
	} {
		wantQuick(t, name, asleep(n, x), own(n), own(x))
	}
	tick := impl.Ins{Op: impl.ITick}
	wantQuick(t, "one between", asleep(n, tick, impl.Ins{Op: impl.IBinary, A: 4, B: impl.OpAdd, C: -3}), own(n), own(tick))
}

func TestQuickField(t *testing.T) {
	n := impl.Ins{Op: impl.IConst, A: 2, B: 1}
	for _, from := range []int{0, 1, 3, -1, -2, -4} {
		x := impl.Ins{Op: impl.IIndex, A: 4, B: from, C: -3}
		wantQuick(t, "field", asleep(n, x), impl.QIns{Op: impl.QField, A: 4, B: from, C: 1, F: 2}, own(x))
	}
	x := impl.Ins{Op: impl.IIndex, A: 2, B: 0, C: -3}
	for k := range 6 {
		n.B = k
		want := own(n)
		if k == 1 || k == 4 {
			want = impl.QIns{Op: impl.QField, A: 2, C: k, F: 2}
		}
		c := asleep(n, x)
		wantQuick(t, "by its const", c, want, own(x))
		if got := impl.Prepare(c).Caches == 1; got != (want.Op == impl.QField) {
			t.Errorf("const %d: a cache: %v", k, got)
		}
	}
}

// fields is a proto of so many lookups of a field, nobody comes to them.
func fields(n int) impl.Proto {
	p := impl.Proto{Regs: 3, Consts: []impl.Value{text("k")}, Ins: back()}
	for range n {
		p.Ins = append(p.Ins, impl.Ins{Op: impl.IConst, A: 1}, impl.Ins{Op: impl.IIndex, A: 2, C: -2})
	}
	p.Ins = append(p.Ins, impl.Ins{Op: impl.IJump})
	return p
}

func TestCachesAreCountedOverProtos(t *testing.T) {
	c := impl.Code{Protos: []impl.Proto{fields(2), fields(0), fields(3), fields(1)}}
	for p := range 3 {
		c.Protos[p].Ins = append(c.Protos[p].Ins, impl.Ins{Op: impl.IFn, A: 1, B: p + 1}, impl.Ins{Op: impl.IJump})
	}
	if f := impl.CheckCode(c); f.Code != 0 {
		t.Fatal(f)
	}
	q := impl.Prepare(c)
	var got []int
	for _, p := range q.Protos {
		for _, x := range p.Ins {
			if x.Op == impl.QField {
				got = append(got, x.D)
			}
		}
	}
	if q.Caches != 6 || !slices.Equal(got, []int{0, 1, 2, 3, 4, 5}) {
		t.Error(q.Caches, got)
	}
}

// Rows of the table one behind the other: each instruction is asked by itself.
func TestQuickOnesOverlap(t *testing.T) {
	c := asleep(
		impl.Ins{Op: impl.IConst, A: 1, B: 0},
		impl.Ins{Op: impl.IBinary, A: 1, B: impl.OpLe, C: 0, D: -2},
		impl.Ins{Op: impl.IUnless, A: -2, B: 5},
		drop(1), drop(2),
		impl.Ins{Op: impl.IConst, A: 2, B: 1},
		impl.Ins{Op: impl.IConst, A: 3, B: 1},
		impl.Ins{Op: impl.IIndex, A: 2, B: -3, C: -4})
	wantQuick(t, "overlap", c,
		impl.QIns{Op: impl.QWith, A: 1, B: impl.OpLe, F: 1},
		impl.QIns{Op: impl.QTest, A: 1, B: impl.OpLe, D: -2, E: 5},
		impl.QIns{Op: impl.IUnless, A: -2, B: 5},
		impl.QIns{Op: impl.QDrops, A: 1, B: 2},
		own(drop(2)),
		impl.QIns{Op: impl.IConst, A: 2, B: 1},
		impl.QIns{Op: impl.QField, A: 2, B: -3, C: 1, F: 3},
		impl.QIns{Op: impl.IIndex, A: 2, B: -3, C: -4})
}

// Each row stands as near to a proto's end as it can; what comes in the next proto is not looked at.
func TestQuickAtTheEndOfAProto(t *testing.T) {
	c := asleep(impl.Ins{Op: impl.IFn, B: 1}, drop(0))
	c.Protos = append(c.Protos, bare(3, drop(1), drop(2), back()[0], back()[1], impl.Ins{Op: impl.IConst, A: 1, B: 1}, impl.Ins{Op: impl.IThrow, A: -2}).Protos[0])
	wantQuick(t, "end", c, impl.QIns{Op: impl.IFn, B: 1}, own(drop(0)), impl.QIns{Op: impl.IJump})
	got := impl.Prepare(c).Protos[1].Ins
	want := []impl.QIns{{Op: impl.QDrops, A: 1, B: 2}, own(drop(2)), own(back()[0]), own(back()[1]), {Op: impl.IConst, A: 1, B: 1}, {Op: impl.IThrow, A: -2}}
	if !slices.Equal(got, want) {
		t.Error(got)
	}
}

// every is a code with each Op, in their order, and behind them the quick ones.
func every() impl.Code {
	c := asleep()
	p := &c.Protos[0]
	p.Ins = back()
	for op := 1; op <= impl.ILast; op++ {
		x := impl.Ins{Op: op}
		switch op {
		case impl.ILine:
			x.A = 12
		case impl.IUpGet, impl.IUpPut:
			continue // the text has no ups
		case impl.IFn:
			x.B = 1
		case impl.IUnary:
			x.B = impl.OpNeg
		case impl.IBinary:
			x.B = impl.OpAdd
		}
		p.Ins = append(p.Ins, x)
	}
	p.Ins = append(p.Ins, drop(1),
		impl.Ins{Op: impl.IConst, A: 1, B: 1}, impl.Ins{Op: impl.IIndex, A: 2, B: 5, C: -2},
		impl.Ins{Op: impl.IConst, A: 3, B: 2}, impl.Ins{Op: impl.IBinary, A: 4, B: impl.OpGt, C: -4, D: -6},
		impl.Ins{Op: impl.IIf, A: -5, B: 40}, impl.Ins{Op: impl.IJump, A: 3})
	inner := impl.Proto{Regs: 1, Ups: []impl.Up{{Local: true}}, Ins: append(back(), impl.Ins{Op: impl.IUpGet}, impl.Ins{Op: impl.IUpPut}, impl.Ins{Op: impl.IJump})}
	c.Protos = append(c.Protos, inner)
	return c
}

const everyListing = `0:0 list 0 0 0 0 0 0
0:1 return -1 0 0 0 0 0
0:2 line 12 0 0 0 0 0
0:3 at 0 0 0 0 0 0
0:4 tick 0 0 0 0 0 0
0:5 const 0 0 0 0 0 0
0:6 move 0 0 0 0 0 0
0:7 box 0 0 0 0 0 0
0:8 get 0 0 0 0 0 0
0:9 put 0 0 0 0 0 0
0:10 fn 0 1 0 0 0 0
0:11 table 0 0 0 0 0 0
0:12 raw 0 0 0 0 0 0
0:13 rawall 0 0 0 0 0 0
0:14 index 0 0 0 0 0 0
0:15 set 0 0 0 0 0 0
0:16 unary 0 19 0 0 0 0
0:17 binary 0 1 0 0 0 0
0:18 jump 0 0 0 0 0 0
0:19 if 0 0 0 0 0 0
0:20 unless 0 0 0 0 0 0
0:21 list 0 0 0 0 0 0
0:22 add 0 0 0 0 0 0
0:23 join 0 0 0 0 0 0
0:24 first 0 0 0 0 0 0
0:25 pick 0 0 0 0 0 0
0:26 copy 0 0 0 0 0 0
0:27 call 0 0 0 0 0 0
0:28 return 0 0 0 0 0 0
0:29 throw 0 0 0 0 0 0
0:30 try 0 0 0 0 0 0
0:31 endtry 0 0 0 0 0 0
0:32 scope 0 0 0 0 0 0
0:33 keep 0 0 0 0 0 0
0:34 defer 0 0 0 0 0 0
0:35 leave 0 0 0 0 0 0
0:36 for 0 0 0 0 0 0
0:37 fortest 0 0 0 0 0 0
0:38 fornext 0 0 0 0 0 0
0:39 each 0 0 0 0 0 0
0:40 eachnext 0 0 0 0 0 0
0:41 qdrops 0 2 0 0 0 0
0:42 drop 1 0 0 0 0 0
0:43 qfield 2 5 1 0 0 1
0:44 index 2 5 -2 0 0 0
0:45 qwith 4 17 -6 2 1 3
0:46 qtest 4 17 -4 -6 40 1
0:47 if -5 40 0 0 0 0
0:48 jump 3 0 0 0 0 0
1:0 list 0 0 0 0 0 0
1:1 return -1 0 0 0 0 0
1:2 upget 0 0 0 0 0 0
1:3 upput 0 0 0 0 0 0
1:4 jump 0 0 0 0 0 0
`

func TestListingOfEveryOp(t *testing.T) {
	c := every()
	if f := impl.CheckCode(c); f.Code != 0 {
		t.Fatal(f)
	}
	got, want := strings.SplitAfter(impl.QuickListing(c), "\n"), strings.SplitAfter(everyListing, "\n")
	for i := range max(len(got), len(want)) {
		if i >= len(got) || i >= len(want) || got[i] != want[i] {
			t.Fatalf("line %d: got %q", i, got[min(i, len(got)-1)])
		}
	}
}

func TestQuickOfCodesThatAreNotVerified(t *testing.T) {
	unread := bare(1, impl.Ins{Op: impl.IReturn, A: -1})
	hollow := plainCode()
	hollow.Protos[1].Ins = nil
	open := plainCode()
	open.Protos[0].Ins = open.Protos[0].Ins[:6]
	lost := plainCode()
	lost.Protos = append(lost.Protos, plainCode().Protos[0])
	for name, c := range map[string]impl.Code{
		"the zero value": {}, "no protos": {Protos: []impl.Proto{}}, "an empty proto": {Protos: make([]impl.Proto, 1)},
		"too many protos": {Protos: make([]impl.Proto, impl.MaxProtos+1)},
		"nothing to read": unread, "a proto with nothing in it": hollow, "no end": open, "a proto nobody makes": lost,
		"a const that there is not": bare(1, impl.Ins{Op: impl.IConst, B: 2}, impl.Ins{Op: impl.IThrow}),
		"an Op of chapter 2":        bare(3, impl.Ins{Op: impl.QDrops, B: 2}, back()[0], back()[1]),
	} {
		if impl.CheckCode(c).Code == 0 {
			t.Errorf("%s is verified", name)
		}
		if q := impl.Prepare(c); len(q.Protos) != 0 || q.Caches != 0 {
			t.Errorf("%s: got %v", name, q)
		}
		if s := impl.QuickListing(c); s != "" {
			t.Errorf("%s: got %q", name, s)
		}
	}
}

// near draws what may stand well with the instruction that was drawn last, or nearly so.
func (d *dice) near(s *stepping, n int) impl.Ins {
	regs := s.p.Regs
	if len(s.p.Ins) == 0 || d.roll(3) == 0 {
		return d.firstOnes(s, n)
	}
	last := s.p.Ins[len(s.p.Ins)-1]
	operand := func() int { return d.pick(-1-last.A, -1-last.A, last.A, d.roll(regs), -1-d.roll(regs)) }
	switch last.Op {
	case impl.IConst:
		if d.roll(2) == 0 {
			return impl.Ins{Op: impl.IBinary, A: d.pick(last.A, d.roll(regs)), B: 12 + d.roll(4), C: operand(), D: operand()}
		}
		return impl.Ins{Op: impl.IIndex, A: d.pick(last.A, d.roll(regs)), B: operand(), C: operand()}
	case impl.IBinary:
		return impl.Ins{Op: d.pick(impl.IIf, impl.IUnless), A: operand(), B: d.roll(n)}
	case impl.IDrop:
		return drop(min(last.A+d.roll(3), regs-1))
	}
	return d.firstOnes(s, n)
}

func (d *dice) firstOnes(s *stepping, n int) impl.Ins {
	r := d.roll(s.p.Regs)
	switch d.roll(5) {
	case 0:
		return drop(r)
	case 1:
		return impl.Ins{Op: impl.IBinary, A: r, B: 12 + d.roll(7), C: d.roll(s.p.Regs), D: d.roll(s.p.Regs)}
	case 2, 3:
		return impl.Ins{Op: impl.IConst, A: r, B: d.roll(2)}
	}
	return d.draw(s, n)
}

func TestQuickOfManyCodes(t *testing.T) {
	d, seen := dice(3), map[int]int{}
	for n := range 6000 {
		c := d.codeOf(d.near)
		kept := copyCode(c)
		got, want := impl.Prepare(c), plainPrepare(kept)
		if !reflect.DeepEqual(got, want) {
			t.Fatalf("code %d: got %v, want %v\n%+v", n, got, want, c)
		}
		if s := impl.QuickListing(c); s != plainListing(want) {
			t.Fatalf("code %d: got %q", n, s)
		}
		for _, p := range got.Protos {
			for i := range p.Ins {
				seen[p.Ins[i].Op]++
				p.Ins[i] = impl.QIns{Op: -1, A: -1}
			}
		}
		if !reflect.DeepEqual(c, kept) {
			t.Fatalf("code %d was written into", n)
		}
		if again := impl.Prepare(c); !reflect.DeepEqual(again, want) {
			t.Fatalf("code %d: another answer the second time", n)
		}
	}
	for _, op := range []int{impl.IConst, impl.IBinary, impl.IDrop, impl.QTest, impl.QWith, impl.QField, impl.QDrops} {
		if seen[op] < 150 {
			t.Errorf("only %d of Op %d", seen[op], op)
		}
	}
	t.Log(seen)
}

// Without IConst, IBinary and IDrop the quick instructions are the code's own.
func TestQuickOfCodesWithNoneThatJoin(t *testing.T) {
	d, verified := dice(4), 0
	for range 3000 {
		c := d.code()
		for p := range c.Protos {
			for i, x := range c.Protos[p].Ins {
				if x.Op == impl.IConst || x.Op == impl.IBinary || x.Op == impl.IDrop {
					c.Protos[p].Ins[i] = impl.Ins{Op: impl.ITable, A: x.A}
				}
			}
		}
		q := impl.Prepare(c)
		if impl.CheckCode(c).Code != 0 {
			continue
		}
		verified++
		if q.Caches != 0 || len(q.Protos) != len(c.Protos) {
			t.Fatal(q)
		}
		for p := range c.Protos {
			for i, x := range c.Protos[p].Ins {
				if q.Protos[p].Ins[i] != own(x) {
					t.Fatalf("%d:%d: got %v, want %v", p, i, q.Protos[p].Ins[i], x)
				}
			}
		}
	}
	if verified < 300 {
		t.Errorf("only %d were verified", verified)
	}
}

func TestQuickOfWildCodes(t *testing.T) {
	d := dice(5)
	for n := range 3000 {
		c := d.codeOf(d.near)
		for range 1 + d.roll(3) {
			if len(c.Protos) > 0 && !slices.ContainsFunc(c.Protos, func(p impl.Proto) bool { return len(p.Ins) == 0 }) {
				d.spoil(&c)
			}
		}
		want := plainPrepare(c)
		if got := impl.Prepare(c); !reflect.DeepEqual(got, want) {
			t.Fatalf("code %d: got %v, want %v\n%+v", n, got, want, c)
		}
		if got := impl.QuickListing(c); got != plainListing(want) {
			t.Fatalf("code %d: got %q", n, got)
		}
	}
}
