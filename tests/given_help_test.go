package tests

import (
	"strings"
	"testing"

	"loop.example/loom/impl"
)

const (
	huge = int(^uint(0) >> 1)
	tiny = -huge - 1
)

func number(n int64) impl.Value { return impl.Value{Kind: impl.KInt, Num: n} }

func float(f float64) impl.Value { return impl.Value{Kind: impl.KFlt, Flt: f} }

func text(s string) impl.Value { return impl.Value{Kind: impl.KStr, Str: s} }

func long(n int) string { return strings.Repeat("x", n) }

// back ends a proto whose register 0 no one needs any more.
func back() []impl.Ins {
	return []impl.Ins{{Op: impl.IList, A: 0}, {Op: impl.IReturn, A: -1}}
}

// bare is a code of one proto with these registers and instructions, and two consts.
func bare(regs int, ins ...impl.Ins) impl.Code {
	return impl.Code{Protos: []impl.Proto{{Name: "main", Regs: regs, Consts: []impl.Value{number(7), text("a")}, Ins: ins}}}
}

// plainCode is a verified code: the text makes a fn that shares a box with it.
func plainCode() impl.Code {
	c := bare(4,
		impl.Ins{Op: impl.ILine, A: 1},
		impl.Ins{Op: impl.IConst, A: 0, B: 0},
		impl.Ins{Op: impl.IBox, A: 1, B: -1},
		impl.Ins{Op: impl.IFn, A: 2, B: 1},
		impl.Ins{Op: impl.IList, A: 3},
		impl.Ins{Op: impl.ICall, A: 3, B: -3, C: -4},
		impl.Ins{Op: impl.IReturn, A: -4},
	)
	inner := impl.Proto{Name: "inner", Line: 2, Params: 1, Rest: true, Regs: 3, Ups: []impl.Up{{Local: true, Index: 1}}}
	inner.Ins = []impl.Ins{{Op: impl.IUpPut, A: 0, B: -1}, {Op: impl.IReturn, A: -2}}
	inner.Named = []impl.Named{{Name: "x", Reg: 0, From: 0, To: 2}}
	c.Protos = append(c.Protos, inner)
	return c
}

// wantFault holds CheckCode's answer against the fault that is wanted.
func wantFault(t *testing.T, name string, c impl.Code, want impl.Fault) {
	t.Helper()
	if got := impl.CheckCode(c); got != want {
		t.Errorf("%s: got %v, want %v", name, got, want)
	}
}
