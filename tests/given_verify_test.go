package tests

import (
	"slices"
	"testing"

	"loop.example/loom/impl"
)

// stocked is a code whose registers hold, ahead of the instructions that are
// given: 0 to 2 values, 3 a box, 4 and 5 lists, 6 and 7 nothing. Given ones
// begin at instruction 6; behind them the text returns.
func stocked(ins ...impl.Ins) impl.Code {
	all := []impl.Ins{
		{Op: impl.IConst, A: 0}, {Op: impl.IConst, A: 1}, {Op: impl.IConst, A: 2},
		{Op: impl.IBox, A: 3, B: 0}, {Op: impl.IList, A: 4}, {Op: impl.IList, A: 5},
	}
	all = append(all, ins...)
	all = append(all, impl.Ins{Op: impl.IList, A: 7}, impl.Ins{Op: impl.IReturn, A: 7})
	return bare(8, all...)
}

func TestRegistersHoldWhatIsAskedFor(t *testing.T) {
	for i, x := range []impl.Ins{
		{Op: impl.IMove, A: 6, B: 0}, {Op: impl.IMove, A: 0, B: -1}, {Op: impl.IMove, A: 3, B: -2},
		{Op: impl.IBox, A: 4, B: 1}, {Op: impl.IGet, A: 6, B: 3}, {Op: impl.IGet, A: 3, B: 3},
		{Op: impl.IPut, A: 3, B: -1}, {Op: impl.ITable, A: 3},
		{Op: impl.IRaw, A: 0, B: 0, C: -2}, {Op: impl.IRaw, A: 0, B: -2, C: -3}, {Op: impl.IRaw, A: 0, B: 1, C: -2},
		{Op: impl.IRawAll, A: 0, B: -2, C: -5}, {Op: impl.IIndex, A: 0, B: -1, C: -2}, {Op: impl.IIndex, A: 6, B: 0, C: -1},
		{Op: impl.ISet, A: -1, B: -2, C: -3}, {Op: impl.ISet, A: 0, B: 0, C: -1},
		{Op: impl.IUnary, A: 6, B: 19, C: -1}, {Op: impl.IBinary, A: 6, B: 1, C: -1, D: -2}, {Op: impl.IBinary, A: 0, B: 1, C: 0, D: -1},
		{Op: impl.IIf, A: 0, B: 7}, {Op: impl.IUnless, A: -1, B: 7},
		{Op: impl.IAdd, A: 4, B: -1}, {Op: impl.IJoin, A: 4, B: -6}, {Op: impl.IJoin, A: 4, B: 4},
		{Op: impl.IFirst, A: 4, B: -5}, {Op: impl.IPick, A: 4, B: 4, C: 250}, {Op: impl.ICopy, A: 6, B: 4},
		{Op: impl.ICall, A: 4, B: -1, C: -5}, {Op: impl.IReturn, A: -5}, {Op: impl.IThrow, A: -1},
		{Op: impl.IFor, A: 0}, {Op: impl.IForTest, A: 0, B: 7}, {Op: impl.IForNext, A: 0, B: 7},
		{Op: impl.IEachNext, A: 0, B: 7, C: 4}, {Op: impl.IEachNext, A: 1, B: 7, C: 5},
		{Op: impl.IDrop, A: 0}, {Op: impl.IDrop, A: 3}, {Op: impl.IDrop, A: 4}, {Op: impl.IDrop, A: 6},
	} {
		if got := impl.CheckCode(stocked(x)); got != (impl.Fault{}) {
			t.Errorf("case %d, %v: got %v", i, x, got)
		}
	}
}

func TestRegistersThatHoldSomethingElse(t *testing.T) {
	for i, x := range []impl.Ins{
		{Op: impl.IMove, A: 6, B: 6}, {Op: impl.IMove, A: 6, B: -4}, {Op: impl.IMove, A: 6, B: 4},
		{Op: impl.IBox, A: 6, B: 3}, {Op: impl.IGet, A: 6, B: 0}, {Op: impl.IGet, A: 6, B: 4}, {Op: impl.IGet, A: 6, B: 6},
		{Op: impl.IPut, A: 0, B: 0}, {Op: impl.IPut, A: 3, B: 3}, {Op: impl.IPut, A: 3, B: -5},
		{Op: impl.IRaw, A: 3, B: 0, C: 1}, {Op: impl.IRaw, A: 0, B: 3, C: 1}, {Op: impl.IRaw, A: 0, B: 1, C: 4},
		{Op: impl.IRaw, A: 0, B: -1, C: 1}, {Op: impl.IRaw, A: 0, B: 1, C: -1}, {Op: impl.IRaw, A: 0, B: -2, C: 1},
		{Op: impl.IRawAll, A: 0, B: -1, C: 4}, {Op: impl.IRawAll, A: 0, B: 1, C: 2}, {Op: impl.IRawAll, A: 4, B: 1, C: 4}, {Op: impl.IRawAll, A: 0, B: 4, C: 4},
		{Op: impl.IIndex, A: 6, B: 6, C: 0}, {Op: impl.IIndex, A: 6, B: 0, C: 6}, {Op: impl.IIndex, A: 6, B: -1, C: 0}, {Op: impl.IIndex, A: 6, B: -1, C: -1},
		{Op: impl.ISet, A: 3, B: 0, C: 0}, {Op: impl.ISet, A: 0, B: 3, C: 0}, {Op: impl.ISet, A: 0, B: 0, C: 3}, {Op: impl.ISet, A: -1, B: 1, C: 0}, {Op: impl.ISet, A: 1, B: -1, C: 0},
		{Op: impl.IUnary, A: 6, B: 19, C: 4}, {Op: impl.IBinary, A: 6, B: 1, C: 4, D: 0}, {Op: impl.IBinary, A: 6, B: 1, C: 0, D: 3}, {Op: impl.IBinary, A: 6, B: 1, C: -1, D: 0},
		{Op: impl.IIf, A: 4, B: 7}, {Op: impl.IUnless, A: 6, B: 7},
		{Op: impl.IAdd, A: 0, B: 0}, {Op: impl.IAdd, A: 4, B: 5}, {Op: impl.IAdd, A: 6, B: 0},
		{Op: impl.IJoin, A: 0, B: 4}, {Op: impl.IJoin, A: 4, B: 0}, {Op: impl.IJoin, A: 4, B: -5},
		{Op: impl.IFirst, A: 6, B: 0}, {Op: impl.IPick, A: 6, B: 0}, {Op: impl.IPick, A: 6, B: 6}, {Op: impl.ICopy, A: 6, B: 3},
		{Op: impl.ICall, A: 6, B: 4, C: 4}, {Op: impl.ICall, A: 6, B: 0, C: 0}, {Op: impl.ICall, A: 6, B: 0, C: 6},
		{Op: impl.IReturn, A: 0}, {Op: impl.IReturn, A: 6}, {Op: impl.IThrow, A: 4}, {Op: impl.IThrow, A: -7},
		{Op: impl.IFor, A: 1}, {Op: impl.IForTest, A: 1, B: 7}, {Op: impl.IForNext, A: 1, B: 7}, {Op: impl.IFor, A: 5},
		{Op: impl.IEach, A: 0}, {Op: impl.IEach, A: 2}, {Op: impl.IEach, A: 5}, {Op: impl.IEach, A: 6},
		{Op: impl.IEachNext, A: 2, B: 7, C: 6}, {Op: impl.IEachNext, A: 6, B: 7, C: 6},
		{Op: impl.IDefer, A: 4, B: 4}, {Op: impl.IDefer, A: 0, B: 0}, // ahead of there being no guard
	} {
		if got := impl.CheckCode(stocked(x)); got != (impl.Fault{Code: 10, At: 6}) {
			t.Errorf("case %d, %v: got %v", i, x, got)
		}
	}
}

func TestWhatInstructionsLeave(t *testing.T) {
	use := map[int]impl.Ins{
		impl.TValue: {Op: impl.IMove, A: 7, B: 6},
		impl.TBox:   {Op: impl.IGet, A: 7, B: 6},
		impl.TList:  {Op: impl.ICopy, A: 7, B: 6},
	}
	for i, x := range []struct {
		ins  impl.Ins
		left int
	}{
		{impl.Ins{Op: impl.IConst, A: 6}, impl.TValue}, {impl.Ins{Op: impl.IMove, A: 6, B: 0}, impl.TValue},
		{impl.Ins{Op: impl.IBox, A: 6, B: 0}, impl.TBox}, {impl.Ins{Op: impl.IGet, A: 6, B: 3}, impl.TValue},
		{impl.Ins{Op: impl.ITable, A: 6}, impl.TValue}, {impl.Ins{Op: impl.IIndex, A: 6}, impl.TValue},
		{impl.Ins{Op: impl.IUnary, A: 6, B: 19}, impl.TValue}, {impl.Ins{Op: impl.IBinary, A: 6, B: 1}, impl.TValue},
		{impl.Ins{Op: impl.IList, A: 6}, impl.TList}, {impl.Ins{Op: impl.IFirst, A: 6, B: 4}, impl.TValue},
		{impl.Ins{Op: impl.IPick, A: 6, B: 4}, impl.TValue}, {impl.Ins{Op: impl.ICopy, A: 6, B: 4}, impl.TList},
		{impl.Ins{Op: impl.ICall, A: 6, B: 0, C: 4}, impl.TList}, {impl.Ins{Op: impl.IDrop, A: 6}, impl.TNone},
	} {
		for wanted, reader := range use {
			want := impl.Fault{Code: 10, At: 7}
			if wanted == x.left {
				want = impl.Fault{}
			}
			if got := impl.CheckCode(stocked(x.ins, reader)); got != want {
				t.Errorf("case %d, %v, then %v: got %v", i, x.ins, reader, got)
			}
		}
	}
}

func TestTakenRegistersHoldNothing(t *testing.T) {
	for i, x := range []impl.Ins{
		{Op: impl.IMove, A: 6, B: -1}, {Op: impl.IBox, A: 6, B: -1}, {Op: impl.IPut, A: 3, B: -1},
		{Op: impl.IRaw, A: 1, B: -1, C: 1}, {Op: impl.IRaw, A: 1, B: 1, C: -1}, {Op: impl.IRawAll, A: 1, B: -1, C: 4},
		{Op: impl.IIndex, A: 6, B: -1, C: 1}, {Op: impl.IIndex, A: 6, B: 1, C: -1}, {Op: impl.ISet, A: -1, B: 1, C: 2},
		{Op: impl.IUnary, A: 6, B: 19, C: -1}, {Op: impl.IBinary, A: 6, B: 1, C: -1, D: 1}, {Op: impl.IIf, A: -1, B: 7},
		{Op: impl.IAdd, A: 4, B: -1}, {Op: impl.ICall, A: 6, B: -1, C: 4},
	} {
		if got := impl.CheckCode(stocked(x, impl.Ins{Op: impl.IMove, A: 7, B: 0})); got != (impl.Fault{Code: 10, At: 7}) {
			t.Errorf("case %d, %v: got %v", i, x, got)
		}
	}
}

func TestFirstTypes(t *testing.T) {
	for i, x := range []struct {
		params int
		rest   bool
		ins    impl.Ins
		code   int
	}{
		{1, false, impl.Ins{Op: impl.IThrow, A: 0}, 0},
		{0, false, impl.Ins{Op: impl.IThrow, A: 0}, 10},
		{1, false, impl.Ins{Op: impl.IThrow, A: 1}, 10},
		{1, true, impl.Ins{Op: impl.IReturn, A: 1}, 0},
		{1, false, impl.Ins{Op: impl.IReturn, A: 1}, 10},
		{0, true, impl.Ins{Op: impl.IReturn, A: 0}, 0},
		{3, false, impl.Ins{Op: impl.IThrow, A: 2}, 0},
	} {
		c := plainCode()
		c.Protos[1] = impl.Proto{Regs: 3, Params: x.params, Rest: x.rest, Ins: []impl.Ins{x.ins}}
		want := impl.Fault{}
		if x.code != 0 {
			want = impl.Fault{Code: x.code, Proto: 1}
		}
		if got := impl.CheckCode(c); got != want {
			t.Errorf("case %d: got %v, want %v", i, got, want)
		}
	}
}

func TestUpsAreBoxes(t *testing.T) {
	for reg, want := range map[int]impl.Fault{0: {Code: 10, At: 3}, 1: {}, 2: {Code: 10, At: 3}, 3: {Code: 10, At: 3}} {
		c := plainCode()
		c.Protos[1].Ups[0].Index = reg
		wantFault(t, "up", c, want)
	}
	c := plainCode()
	c.Protos[0].Ins[3].A = 1
	c.Protos[0].Ins[5].B = -2
	wantFault(t, "the fn in the place of its box", c, impl.Fault{})
}

func TestEach(t *testing.T) {
	begin := []impl.Ins{{Op: impl.IDrop, A: 1}, {Op: impl.IEach, A: 0}}
	next := impl.Ins{Op: impl.IEachNext, A: 0, B: 10, C: 6}
	with := func(more ...impl.Ins) impl.Code { return stocked(append(slices.Clone(begin), more...)...) }
	wantFault(t, "a loop that begins anew at its end", with(next, impl.Ins{Op: impl.IDrop, A: 6}, impl.Ins{Op: impl.IJump, A: 8}), impl.Fault{Code: 14, At: 8})
	next.B = 11
	wantFault(t, "a loop that leaves", with(next, impl.Ins{Op: impl.IDrop, A: 6}, impl.Ins{Op: impl.IJump, A: 8}), impl.Fault{})
	wantFault(t, "no list at the end", with(next, impl.Ins{Op: impl.IDrop, A: 6}, impl.Ins{Op: impl.IJump, A: 8}, impl.Ins{Op: impl.ICopy, A: 7, B: 6}), impl.Fault{Code: 10, At: 11})
	wantFault(t, "a list in the loop", with(next, impl.Ins{Op: impl.IFirst, A: 7, B: -7}, impl.Ins{Op: impl.IJump, A: 8}), impl.Fault{Code: 13, At: 8})
	next.B, next.C = 9, 4
	wantFault(t, "a list ahead and behind", with(next), impl.Fault{})
	next.C = 6
	wantFault(t, "both at one place", with(next), impl.Fault{Code: 13, At: 9})
	wantFault(t, "values in both", with(impl.Ins{Op: impl.IBinary, A: 6, B: 1, C: -1, D: -2}), impl.Fault{})
}

func TestGuardsThatAreThere(t *testing.T) {
	scope, leave := impl.Ins{Op: impl.IScope, A: 6}, impl.Ins{Op: impl.ILeave}
	keep, end := impl.Ins{Op: impl.IKeep, A: 7}, impl.Ins{Op: impl.IEndTry}
	deferred := impl.Ins{Op: impl.IDefer, A: 0, B: 4}
	for i, x := range []struct {
		ins  []impl.Ins
		want impl.Fault
	}{
		{[]impl.Ins{leave}, impl.Fault{Code: 11, At: 6}},
		{[]impl.Ins{keep}, impl.Fault{Code: 11, At: 6}},
		{[]impl.Ins{deferred}, impl.Fault{Code: 11, At: 6}},
		{[]impl.Ins{end}, impl.Fault{Code: 11, At: 6}},
		{[]impl.Ins{scope, deferred, keep, leave}, impl.Fault{}},
		{[]impl.Ins{scope, scope, leave, leave}, impl.Fault{}},
		{[]impl.Ins{scope, leave, leave}, impl.Fault{Code: 11, At: 8}},
		{[]impl.Ins{scope, leave, deferred}, impl.Fault{Code: 11, At: 8}},
		{[]impl.Ins{scope, end}, impl.Fault{Code: 11, At: 7}},
		{[]impl.Ins{scope}, impl.Fault{}},
	} {
		if got := impl.CheckCode(stocked(x.ins...)); got != x.want {
			t.Errorf("case %d: got %v, want %v", i, got, x.want)
		}
	}
}

// caught is a code of 8 registers, values in 0 to 2, that stands in a guard
// that catches with the keep that is given; the instructions given begin at 4.
func caught(keep int, ins ...impl.Ins) impl.Code {
	all := []impl.Ins{{Op: impl.IConst, A: 0}, {Op: impl.IConst, A: 1}, {Op: impl.IConst, A: 2}}
	all = append(all, impl.Ins{Op: impl.ITry, A: 4 + len(ins) + 2, B: keep})
	all = append(all, ins...)
	all = append(all, impl.Ins{Op: impl.IList, A: 7}, impl.Ins{Op: impl.IReturn, A: -8})
	all = append(all, impl.Ins{Op: impl.IThrow, A: keep + 1})
	return bare(8, all...)
}

func TestGuardsInsideOnesThatCatch(t *testing.T) {
	end := impl.Ins{Op: impl.IEndTry}
	for i, x := range []struct {
		ins  []impl.Ins
		want impl.Fault
	}{
		{[]impl.Ins{end}, impl.Fault{}},
		{[]impl.Ins{end, end}, impl.Fault{Code: 11, At: 5}},
		{[]impl.Ins{{Op: impl.ILeave}}, impl.Fault{Code: 11, At: 4}},
		{[]impl.Ins{{Op: impl.IKeep, A: 3}}, impl.Fault{Code: 11, At: 4}},
		{[]impl.Ins{{Op: impl.IScope, A: 2}}, impl.Fault{}},
		{[]impl.Ins{{Op: impl.IScope, A: 1}}, impl.Fault{Code: 11, At: 4}},
		{[]impl.Ins{{Op: impl.IScope, A: 3}, {Op: impl.IKeep, A: 2}, {Op: impl.ILeave}, end}, impl.Fault{}},
		{[]impl.Ins{{Op: impl.IScope, A: 3}, {Op: impl.IKeep, A: 1}}, impl.Fault{Code: 11, At: 5}},
		{[]impl.Ins{{Op: impl.IScope, A: 5}, {Op: impl.IScope, A: 2}}, impl.Fault{}},
		{[]impl.Ins{{Op: impl.IScope, A: 5}, {Op: impl.IScope, A: 1}}, impl.Fault{Code: 11, At: 5}},
		{[]impl.Ins{{Op: impl.ITry, A: 4, B: 1}}, impl.Fault{Code: 11, At: 4}},
		{[]impl.Ins{{Op: impl.ITry, A: 6, B: 2}, {Op: impl.IThrow, A: 0}, {Op: impl.IDrop, A: 3}, {Op: impl.IDrop, A: 2}, end}, impl.Fault{}},
		{[]impl.Ins{end, {Op: impl.IScope, A: 0}}, impl.Fault{}},
	} {
		if got := impl.CheckCode(caught(2, x.ins...)); got != x.want {
			t.Errorf("case %d: got %v, want %v", i, got, x.want)
		}
	}
}

func TestNumberOfGuards(t *testing.T) {
	many := make([]impl.Ins, impl.MaxGuards)
	for i := range many {
		many[i] = impl.Ins{Op: impl.IScope, A: 1}
	}
	wantFault(t, "most", bare(1, append(slices.Clone(many), back()...)...), impl.Fault{})
	one := append(slices.Clone(many), impl.Ins{Op: impl.IScope, A: 1})
	wantFault(t, "one more scope", bare(1, append(one, back()...)...), impl.Fault{Code: 11, At: impl.MaxGuards})
	try := append(slices.Clone(many), impl.Ins{Op: impl.ITry, A: 0, B: 0})
	wantFault(t, "one more try", bare(2, append(try, back()...)...), impl.Fault{Code: 11, At: impl.MaxGuards})
	again := append(slices.Clone(many), impl.Ins{Op: impl.ILeave}, impl.Ins{Op: impl.IScope})
	wantFault(t, "one in the place of another", bare(1, append(again, back()...)...), impl.Fault{})
}

func TestWhatGuardsKeep(t *testing.T) {
	for i, x := range []struct {
		ins  impl.Ins
		want impl.Fault
	}{
		{impl.Ins{Op: impl.IMove, A: 6, B: -3}, impl.Fault{}},
		{impl.Ins{Op: impl.IMove, A: 6, B: -2}, impl.Fault{Code: 12, At: 4}},
		{impl.Ins{Op: impl.IMove, A: 1, B: -2}, impl.Fault{Code: 12, At: 4}},
		{impl.Ins{Op: impl.IMove, A: 1, B: 2}, impl.Fault{}},
		{impl.Ins{Op: impl.IBox, A: 1, B: 1}, impl.Fault{Code: 12, At: 4}},
		{impl.Ins{Op: impl.IBox, A: 2, B: 1}, impl.Fault{}},
		{impl.Ins{Op: impl.IDrop, A: 1}, impl.Fault{Code: 12, At: 4}},
		{impl.Ins{Op: impl.IDrop, A: 2}, impl.Fault{}},
		{impl.Ins{Op: impl.IList, A: 0}, impl.Fault{Code: 12, At: 4}},
		{impl.Ins{Op: impl.IThrow, A: -1}, impl.Fault{Code: 12, At: 4}},
		{impl.Ins{Op: impl.IThrow, A: 0}, impl.Fault{}},
		{impl.Ins{Op: impl.IIf, A: -1, B: 5}, impl.Fault{Code: 12, At: 4}},
		{impl.Ins{Op: impl.IEach, A: 2}, impl.Fault{}},
		{impl.Ins{Op: impl.IEachNext, A: 0, B: 5, C: 1}, impl.Fault{Code: 12, At: 4}},
		{impl.Ins{Op: impl.IForNext, A: 0, B: 5}, impl.Fault{}},
	} {
		if got := impl.CheckCode(caught(2, x.ins)); got != x.want {
			t.Errorf("case %d, %v: got %v, want %v", i, x.ins, got, x.want)
		}
	}
	wantFault(t, "each takes", caught(4, impl.Ins{Op: impl.IEach, A: 2}), impl.Fault{Code: 12, At: 4})
	wantFault(t, "each takes the last that is kept", caught(3, impl.Ins{Op: impl.IEach, A: 2}), impl.Fault{Code: 12, At: 4})
	wantFault(t, "nothing stays nothing", caught(4, impl.Ins{Op: impl.IDrop, A: 3}), impl.Fault{})
	wantFault(t, "behind the guard", caught(2, impl.Ins{Op: impl.IEndTry}, impl.Ins{Op: impl.IDrop, A: 0}), impl.Fault{})
	wantFault(t, "a guard that catches around one that does not", caught(2, impl.Ins{Op: impl.IScope, A: 3}, impl.Ins{Op: impl.IDrop, A: 1}), impl.Fault{Code: 12, At: 5})
	wantFault(t, "what one with defers keeps", caught(0, impl.Ins{Op: impl.IScope, A: 3}, impl.Ins{Op: impl.IDrop, A: 1}), impl.Fault{})
}

func TestHandlers(t *testing.T) {
	use := func(ins impl.Ins) impl.Code {
		c := caught(2, impl.Ins{Op: impl.IEndTry})
		last := len(c.Protos[0].Ins) - 1
		c.Protos[0].Ins = append(c.Protos[0].Ins[:last], ins, impl.Ins{Op: impl.IThrow, A: 0})
		return c
	}
	wantFault(t, "below the keep", use(impl.Ins{Op: impl.IMove, A: 5, B: 1}), impl.Fault{})
	wantFault(t, "the error", use(impl.Ins{Op: impl.IMove, A: 5, B: 2}), impl.Fault{})
	wantFault(t, "the trace", use(impl.Ins{Op: impl.IMove, A: 5, B: 3}), impl.Fault{})
	wantFault(t, "above", use(impl.Ins{Op: impl.IMove, A: 5, B: 4}), impl.Fault{Code: 10, At: 7})
	wantFault(t, "outside of the guard", use(impl.Ins{Op: impl.IEndTry}), impl.Fault{Code: 11, At: 7})
	wantFault(t, "no more kept", use(impl.Ins{Op: impl.IMove, A: 5, B: -1}), impl.Fault{Code: 10, At: 8})
	wantFault(t, "the next one as a handler", caught(2), impl.Fault{})
	same := bare(2, impl.Ins{Op: impl.IConst, A: 0}, impl.Ins{Op: impl.IConst, A: 1}, impl.Ins{Op: impl.ITry, A: 3, B: 0}, impl.Ins{Op: impl.IThrow, A: 0})
	wantFault(t, "with the guard and without", same, impl.Fault{Code: 13, At: 3})
}

func TestStatesMeet(t *testing.T) {
	k := impl.Ins{Op: impl.IConst, A: 0}
	list, ret := impl.Ins{Op: impl.IList, A: 2}, impl.Ins{Op: impl.IReturn, A: 2}
	for i, x := range []struct {
		ins  []impl.Ins
		want impl.Fault
	}{
		{[]impl.Ins{k, {Op: impl.IIf, A: 0, B: 3}, {Op: impl.IMove, A: 0, B: 0}, list, ret}, impl.Fault{}},
		{[]impl.Ins{k, {Op: impl.IIf, A: 0, B: 3}, {Op: impl.IMove, A: 1, B: 0}, list, ret}, impl.Fault{Code: 13, At: 3}},
		{[]impl.Ins{k, {Op: impl.IUnless, A: 0, B: 3}, {Op: impl.IBox, A: 0, B: 0}, list, ret}, impl.Fault{Code: 13, At: 3}},
		{[]impl.Ins{k, {Op: impl.IIf, A: 0, B: 3}, {Op: impl.IScope, A: 3}, list, ret}, impl.Fault{Code: 13, At: 3}},
		{[]impl.Ins{k, {Op: impl.IScope, A: 3}, {Op: impl.IIf, A: 0, B: 4}, {Op: impl.IKeep, A: 2}, list, ret}, impl.Fault{Code: 13, At: 4}},
		{[]impl.Ins{k, {Op: impl.IScope, A: 3}, {Op: impl.IIf, A: 0, B: 4}, {Op: impl.IKeep, A: 3}, list, ret}, impl.Fault{}},
		{[]impl.Ins{k, {Op: impl.IJump, A: 1}}, impl.Fault{Code: 14, At: 1}},
		{[]impl.Ins{{Op: impl.ITick}, k, {Op: impl.IJump, A: 0}}, impl.Fault{Code: 13, At: 0}},
		{[]impl.Ins{{Op: impl.ITick}, k, {Op: impl.IJump, A: 1}}, impl.Fault{Code: 13, At: 1}},
	} {
		if got := impl.CheckCode(bare(3, x.ins...)); got != x.want {
			t.Errorf("case %d: got %v, want %v", i, got, x.want)
		}
	}
}

// Two guards alike but for their handlers are not the same.
func TestHandlersAreInTheState(t *testing.T) {
	c := bare(3,
		impl.Ins{Op: impl.IConst, A: 0},
		impl.Ins{Op: impl.IIf, A: 0, B: 4},
		impl.Ins{Op: impl.ITry, A: 6, B: 1},
		impl.Ins{Op: impl.IJump, A: 5},
		impl.Ins{Op: impl.ITry, A: 7, B: 1},
		impl.Ins{Op: impl.IThrow, A: 0},
		impl.Ins{Op: impl.IThrow, A: 1},
		impl.Ins{Op: impl.IThrow, A: 1},
	)
	wantFault(t, "two handlers", c, impl.Fault{Code: 13, At: 5})
	c.Protos[0].Ins[4].A = 6
	wantFault(t, "one handler", c, impl.Fault{})
}

func TestWaysThatGoRound(t *testing.T) {
	k, jump := impl.Ins{Op: impl.IConst, A: 0}, impl.Ins{Op: impl.IJump, A: 3}
	three := []impl.Ins{k, {Op: impl.IConst, A: 1}, {Op: impl.IConst, A: 2}}
	round := impl.Fault{Code: 14, At: 3}
	for i, x := range []struct {
		ins  []impl.Ins
		want impl.Fault
	}{
		{[]impl.Ins{jump}, round},
		{[]impl.Ins{{Op: impl.ITick}, jump}, impl.Fault{}},
		{[]impl.Ins{{Op: impl.ILine, A: 1}, jump}, impl.Fault{}},
		{[]impl.Ins{{Op: impl.IAt, A: 1}, jump}, round},
		{[]impl.Ins{{Op: impl.IBinary, A: 0, B: 12, C: 0, D: 1}, jump}, impl.Fault{}},
		{[]impl.Ins{{Op: impl.IBinary, A: 0, B: 11, C: 0, D: 1}, jump}, round},
		{[]impl.Ins{{Op: impl.IBinary, A: 0, B: 13, C: 0, D: 1}, jump}, round},
		{[]impl.Ins{{Op: impl.IIndex, A: 0, B: 0, C: 1}, jump}, round},
		{[]impl.Ins{{Op: impl.IList, A: 3}, {Op: impl.ICall, A: 3, B: 0, C: -4}, {Op: impl.IDrop, A: 3}, jump}, impl.Fault{}},
		{[]impl.Ins{{Op: impl.IForNext, A: 0, B: 3}, {Op: impl.IThrow, A: 0}}, round},
		{[]impl.Ins{{Op: impl.ITick}, {Op: impl.IForNext, A: 0, B: 3}, {Op: impl.IThrow, A: 0}}, impl.Fault{}},
		{[]impl.Ins{{Op: impl.IForTest, A: 0, B: 3}, {Op: impl.IThrow, A: 0}}, round},
		{[]impl.Ins{{Op: impl.IIf, A: 0, B: 3}, {Op: impl.IThrow, A: 0}}, round},
		{[]impl.Ins{{Op: impl.IUnless, A: 0, B: 4}, {Op: impl.ITick}, jump}, impl.Fault{}},
		{[]impl.Ins{{Op: impl.IUnless, A: 0, B: 5}, {Op: impl.ITick}, jump}, round},
		{[]impl.Ins{{Op: impl.IEachNext, A: 0, B: 6, C: 3}, {Op: impl.IDrop, A: 3}, jump, {Op: impl.IThrow, A: 0}}, impl.Fault{}},
		{[]impl.Ins{{Op: impl.IEachNext, A: 0, B: 3, C: 3}, {Op: impl.IThrow, A: 0}}, round},
		{[]impl.Ins{{Op: impl.IThrow, A: 0}, {Op: impl.IJump, A: 4}}, impl.Fault{}},
		{[]impl.Ins{{Op: impl.IIf, A: 0, B: 6}, {Op: impl.ITick}, jump, {Op: impl.IAt, A: 1}, {Op: impl.IJump, A: 6}}, impl.Fault{Code: 14, At: 6}},
		{[]impl.Ins{{Op: impl.IIf, A: 0, B: 5}, {Op: impl.IJump, A: 6}, {Op: impl.IJump, A: 4}, {Op: impl.IJump, A: 5}}, impl.Fault{Code: 14, At: 4}},
	} {
		if got := impl.CheckCode(bare(4, append(slices.Clone(three), x.ins...)...)); got != x.want {
			t.Errorf("case %d: got %v, want %v", i, got, x.want)
		}
	}
	trying := bare(2, k, impl.Ins{Op: impl.IConst, A: 1}, impl.Ins{Op: impl.ITry, A: 2, B: 0}, impl.Ins{Op: impl.IThrow, A: 0})
	wantFault(t, "a guard that is its own handler", trying, impl.Fault{Code: 14, At: 2})
}

func TestLongWaysThatGoRound(t *testing.T) {
	ins := make([]impl.Ins, impl.MaxIns)
	for i := range ins {
		ins[i].Op = impl.IAt
	}
	ins[len(ins)-1] = impl.Ins{Op: impl.IJump, A: 5000}
	wantFault(t, "round at the end", bare(0, ins...), impl.Fault{Code: 14, At: 5000})
	ins[5500] = impl.Ins{Op: impl.ITick}
	wantFault(t, "with a tick", bare(0, ins...), impl.Fault{})
}

func TestWhichVerifierFaultComesFirst(t *testing.T) {
	wantFault(t, "10 ahead of 11", caught(2, impl.Ins{Op: impl.IDefer, A: 7, B: 7}), impl.Fault{Code: 10, At: 4})
	wantFault(t, "10 ahead of 12", caught(2, impl.Ins{Op: impl.IBinary, A: 0, B: 1, C: -1, D: -1}), impl.Fault{Code: 10, At: 4})
	wantFault(t, "11 ahead of 12", caught(2, impl.Ins{Op: impl.IList, A: 5}, impl.Ins{Op: impl.IDefer, A: -1, B: 5}), impl.Fault{Code: 11, At: 5})
	wantFault(t, "12 ahead of 13", caught(2, impl.Ins{Op: impl.IIf, A: -1, B: 0}), impl.Fault{Code: 12, At: 4})
	wantFault(t, "13 ahead of 14", bare(1, impl.Ins{Op: impl.IConst, A: 0}, impl.Ins{Op: impl.IJump, A: 0}), impl.Fault{Code: 13})
	two := bare(2, impl.Ins{Op: impl.IConst, A: 0}, impl.Ins{Op: impl.IIf, A: -1, B: 0}, impl.Ins{Op: impl.IThrow, A: 0})
	wantFault(t, "looked at later", two, impl.Fault{Code: 10, At: 2})
	least := bare(1, impl.Ins{Op: impl.IJump, A: 3}, impl.Ins{Op: impl.IThrow, A: 0}, impl.Ins{Op: impl.IThrow, A: 0}, impl.Ins{Op: impl.IConst, A: 0}, impl.Ins{Op: impl.IIf, A: 0, B: 2}, impl.Ins{Op: impl.IIf, A: -1, B: 1}, impl.Ins{Op: impl.IReturn, A: 0})
	wantFault(t, "the least in the set", least, impl.Fault{Code: 10, At: 1})
	unseen := bare(1, impl.Ins{Op: impl.ITick}, impl.Ins{Op: impl.IJump}, impl.Ins{Op: impl.IThrow, A: 0}, impl.Ins{Op: impl.IJump, A: 3})
	wantFault(t, "never reached", unseen, impl.Fault{})
	c := plainCode()
	c.Protos[1].Ins[1].A = -1
	wantFault(t, "in a later proto", c, impl.Fault{Code: 10, Proto: 1, At: 1})
	c.Protos[0].Ins = append(c.Protos[0].Ins[:6], impl.Ins{Op: impl.IIf, A: 0, B: 6}, impl.Ins{Op: impl.IReturn, A: -4})
	c.Protos[0].Ins[2].B = 0
	wantFault(t, "14 of an earlier proto", c, impl.Fault{Code: 14, At: 6})
}
