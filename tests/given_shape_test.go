package tests

import (
	"math"
	"strings"
	"testing"

	"loop.example/loom/impl"
)

func TestPlainCodeIsVerified(t *testing.T) {
	wantFault(t, "plain", plainCode(), impl.Fault{})
}

// manyProtos is a code in which each proto but the last makes the next one.
func manyProtos(n int) impl.Code {
	c := impl.Code{}
	for p := range n {
		proto := impl.Proto{Regs: 1}
		if p < n-1 {
			proto.Ins = append(proto.Ins, impl.Ins{Op: impl.IFn, A: 0, B: p + 1})
		}
		proto.Ins = append(proto.Ins, back()...)
		c.Protos = append(c.Protos, proto)
	}
	return c
}

func manyTicks(n int) impl.Code {
	ins := make([]impl.Ins, n-2)
	for i := range ins {
		ins[i].Op = impl.ITick
	}
	return bare(1, append(ins, back()...)...)
}

func TestSizesOfCodes(t *testing.T) {
	wantFault(t, "nothing", impl.Code{}, impl.Fault{Code: 1})
	wantFault(t, "empty list", impl.Code{Protos: []impl.Proto{}}, impl.Fault{Code: 1})
	wantFault(t, "most protos", manyProtos(impl.MaxProtos), impl.Fault{})
	wantFault(t, "too many protos", manyProtos(impl.MaxProtos+1), impl.Fault{Code: 1})
	wantFault(t, "most instructions", manyTicks(impl.MaxIns), impl.Fault{})
	wantFault(t, "too many instructions", manyTicks(impl.MaxIns+1), impl.Fault{Code: 1})
	split := plainCode()
	ahead := manyTicks(impl.MaxIns - 9 + 2).Protos[0].Ins
	split.Protos[1].Ins = append(ahead[:len(ahead)-2:len(ahead)-2], split.Protos[1].Ins...)
	wantFault(t, "most instructions in two protos", split, impl.Fault{})
	split.Protos[0].Ins = append([]impl.Ins{{Op: impl.ITick}}, split.Protos[0].Ins...)
	wantFault(t, "one more in two protos", split, impl.Fault{Code: 1})
}

func TestHeadsOfProtos(t *testing.T) {
	at := impl.Fault{Code: 2, Proto: 1}
	manyUps := make([]impl.Up, impl.MaxRegs+1)
	for i := range manyUps {
		manyUps[i] = impl.Up{Local: true, Index: 1}
	}
	for _, x := range []struct {
		name  string
		spoil func(p *impl.Proto)
		want  impl.Fault
	}{
		{"no name", func(p *impl.Proto) { p.Name = "" }, impl.Fault{}},
		{"longest name", func(p *impl.Proto) { p.Name = long(impl.MaxName) }, impl.Fault{}},
		{"long name", func(p *impl.Proto) { p.Name = long(impl.MaxName + 1) }, at},
		{"bytes of a name", func(p *impl.Proto) { p.Name = strings.Repeat("é", 21) }, at},
		{"line 0", func(p *impl.Proto) { p.Line = 0 }, impl.Fault{}},
		{"line below", func(p *impl.Proto) { p.Line = -1 }, at},
		{"last line", func(p *impl.Proto) { p.Line = impl.MaxLine }, impl.Fault{}},
		{"line beyond", func(p *impl.Proto) { p.Line = impl.MaxLine + 1 }, at},
		{"most registers", func(p *impl.Proto) { p.Regs = impl.MaxRegs }, impl.Fault{}},
		{"too many registers", func(p *impl.Proto) { p.Regs = impl.MaxRegs + 1 }, at},
		{"registers far out", func(p *impl.Proto) { p.Regs = huge }, at},
		{"registers below 0", func(p *impl.Proto) { p.Regs, p.Params, p.Rest = -1, 0, false }, at},
		{"registers far below 0", func(p *impl.Proto) { p.Regs, p.Params = tiny, tiny }, at},
		{"params below 0", func(p *impl.Proto) { p.Params = -1 }, at},
		{"most params with rest", func(p *impl.Proto) {
			p.Params, p.Ins = 2, p.Ins[:1]
			p.Ins = append(p.Ins, impl.Ins{Op: impl.IReturn, A: -3})
		}, impl.Fault{}},
		{"too many params with rest", func(p *impl.Proto) { p.Params = 3 }, at},
		{"most params", func(p *impl.Proto) {
			p.Params, p.Rest = 3, false
			p.Ins = []impl.Ins{{Op: impl.IThrow, A: 2}, {Op: impl.IThrow, A: 2}}
		}, impl.Fault{}},
		{"too many params", func(p *impl.Proto) { p.Params, p.Rest = 4, false }, at},
		{"no registers", func(p *impl.Proto) {
			*p = impl.Proto{Ins: []impl.Ins{{Op: impl.ITick}, {Op: impl.IJump}}}
		}, impl.Fault{}},
		{"rest without registers", func(p *impl.Proto) { p.Regs, p.Params = 0, 0 }, at},
		{"most ups", func(p *impl.Proto) { p.Ups = manyUps[:impl.MaxRegs] }, impl.Fault{}},
		{"too many ups", func(p *impl.Proto) { p.Ups = manyUps }, at},
		{"most consts", func(p *impl.Proto) { p.Consts = make([]impl.Value, impl.MaxConsts) }, impl.Fault{}},
		{"too many consts", func(p *impl.Proto) { p.Consts = make([]impl.Value, impl.MaxConsts+1) }, at},
	} {
		c := plainCode()
		x.spoil(&c.Protos[1])
		wantFault(t, x.name, c, x.want)
	}
}

func TestHeadOfTheText(t *testing.T) {
	c := plainCode()
	c.Protos[0].Params = 1
	wantFault(t, "params", c, impl.Fault{Code: 2})
	c = plainCode()
	c.Protos[0].Ups = []impl.Up{{Local: true}}
	wantFault(t, "ups", c, impl.Fault{Code: 2})
	c = bare(1, impl.Ins{Op: impl.IReturn, A: -1})
	c.Protos[0].Rest = true
	wantFault(t, "rest", c, impl.Fault{})
}

func TestConsts(t *testing.T) {
	minus := math.Copysign(0, -1)
	for _, x := range []struct {
		name string
		v    impl.Value
		ok   bool
	}{
		{"nil", impl.Value{}, true},
		{"nil with a number", impl.Value{Num: 1}, false},
		{"nil with a float", impl.Value{Flt: 1}, false},
		{"nil with a NaN", impl.Value{Flt: math.NaN()}, false},
		{"nil with a text", impl.Value{Str: "a"}, false},
		{"nil with a ref", impl.Value{Ref: 1}, false},
		{"nil with a zero that has a sign", impl.Value{Flt: minus}, false},
		{"false", impl.Value{Kind: impl.KBool}, true},
		{"true", impl.Value{Kind: impl.KBool, Num: 1}, true},
		{"bool 2", impl.Value{Kind: impl.KBool, Num: 2}, false},
		{"bool -1", impl.Value{Kind: impl.KBool, Num: -1}, false},
		{"least int", number(math.MinInt64), true},
		{"int with a ref", impl.Value{Kind: impl.KInt, Ref: -1}, false},
		{"int with a zero that has a sign", impl.Value{Kind: impl.KInt, Flt: minus}, false},
		{"float", float(1.5), true},
		{"infinity", float(math.Inf(-1)), true},
		{"float zero with a sign", float(minus), true},
		{"NaN", float(math.NaN()), false},
		{"float with a number", impl.Value{Kind: impl.KFlt, Num: 1}, false},
		{"no bytes", text(""), true},
		{"longest string", text(long(impl.MaxStr)), true},
		{"long string", text(long(impl.MaxStr + 1)), false},
		{"string with a number", impl.Value{Kind: impl.KStr, Num: 1}, false},
		{"string with a zero that has a sign", impl.Value{Kind: impl.KStr, Flt: minus}, false},
		{"table", impl.Value{Kind: impl.KTable}, false},
		{"fn", impl.Value{Kind: impl.KFn, Ref: 1}, false},
		{"task", impl.Value{Kind: impl.KTask}, false},
		{"first builtin", impl.Value{Kind: impl.KBuiltin}, true},
		{"last builtin", impl.Value{Kind: impl.KBuiltin, Num: impl.Builtins - 1}, true},
		{"no builtin", impl.Value{Kind: impl.KBuiltin, Num: impl.Builtins}, false},
		{"builtin below 0", impl.Value{Kind: impl.KBuiltin, Num: -1}, false},
		{"builtin with a ref", impl.Value{Kind: impl.KBuiltin, Ref: 1}, false},
		{"kind 9", impl.Value{Kind: 9}, false},
		{"kind -1", impl.Value{Kind: -1}, false},
	} {
		c := plainCode()
		c.Protos[1].Consts = []impl.Value{{}, x.v, x.v}
		want := impl.Fault{Code: 3, Proto: 1, At: 1}
		if x.ok {
			want = impl.Fault{}
		}
		wantFault(t, x.name, c, want)
	}
}

func TestNamed(t *testing.T) {
	for _, x := range []struct {
		name string
		n    impl.Named
		ok   bool
	}{
		{"whole", impl.Named{Name: "a", Reg: 2, From: 0, To: 2}, true},
		{"nowhere", impl.Named{Name: "a", From: 2, To: 2}, true},
		{"longest", impl.Named{Name: long(impl.MaxName)}, true},
		{"long", impl.Named{Name: long(impl.MaxName + 1)}, false},
		{"no name", impl.Named{}, false},
		{"register beyond", impl.Named{Name: "a", Reg: 3}, false},
		{"register below 0", impl.Named{Name: "a", Reg: -1}, false},
		{"from below 0", impl.Named{Name: "a", From: -1}, false},
		{"to beyond", impl.Named{Name: "a", To: 3}, false},
		{"to below from", impl.Named{Name: "a", From: 2, To: 1}, false},
		{"far out", impl.Named{Name: "a", From: tiny, To: huge}, false},
	} {
		c := plainCode()
		c.Protos[1].Named = append(c.Protos[1].Named, x.n)
		want := impl.Fault{Code: 4, Proto: 1, At: 1}
		if x.ok {
			want = impl.Fault{}
		}
		wantFault(t, x.name, c, want)
	}
}

func TestNumberOfNamed(t *testing.T) {
	c := plainCode()
	c.Protos[1].Named = make([]impl.Named, impl.MaxConsts)
	for i := range c.Protos[1].Named {
		c.Protos[1].Named[i].Name = "a"
	}
	wantFault(t, "most", c, impl.Fault{})
	c.Protos[1].Named = append(c.Protos[1].Named, impl.Named{Name: "a"}, impl.Named{Name: "a"})
	wantFault(t, "too many", c, impl.Fault{Code: 4, Proto: 1, At: impl.MaxConsts})
	c.Protos[1].Named[7].Name = ""
	wantFault(t, "one ahead", c, impl.Fault{Code: 4, Proto: 1, At: 7})
}

// fieldEdges are, of what a field can be, the edges that are accepted and
// those that are not, in a proto of fieldCode.
var fieldEdges = map[string]struct{ ok, bad []int }{
	"-":       {[]int{0}, []int{1, -1}},
	"place":   {[]int{0, 9}, []int{-1, 10}},
	"two":     {[]int{0, 8}, []int{-1, 9}},
	"three":   {[]int{0, 7}, []int{-1, 8}},
	"operand": {[]int{0, 9, -1, -10}, []int{10, -11}},
	"const":   {[]int{0, 2}, []int{-1, 3}},
	"up":      {[]int{0, 1}, []int{-1, 2}},
	"proto":   {[]int{0, 2}, []int{-1, 3}},
	"ins":     {[]int{0, 2}, []int{-1, 3}},
	"line":    {[]int{1, impl.MaxLine}, []int{0, -1, impl.MaxLine + 1}},
	"anyline": {[]int{0, impl.MaxLine}, []int{-1, impl.MaxLine + 1}},
	"unary":   {[]int{19, 22}, []int{0, 18, 23}},
	"binary":  {[]int{1, 18}, []int{-1, 0, 19}},
	"element": {[]int{0, impl.MaxRegs}, []int{-1, impl.MaxRegs + 1}},
	"keep":    {[]int{0, 10}, []int{-1, 11}},
	"trykeep": {[]int{0, 8}, []int{-1, 9}},
}

var fieldsOfOps = map[int]string{
	impl.ILine: "line - - -", impl.IAt: "anyline - - -", impl.ITick: "- - - -",
	impl.IConst: "place const - -", impl.IMove: "place operand - -", impl.IBox: "place operand - -",
	impl.IGet: "place place - -", impl.IPut: "place operand - -",
	impl.IUpGet: "place up - -", impl.IUpPut: "up operand - -",
	impl.IFn: "place proto - -", impl.ITable: "place - - -",
	impl.IRaw: "place operand operand -", impl.IRawAll: "place operand operand -",
	impl.IIndex: "place operand operand -", impl.ISet: "operand operand operand -",
	impl.IUnary: "place unary operand -", impl.IBinary: "place binary operand operand",
	impl.IJump: "ins - - -", impl.IIf: "operand ins - -", impl.IUnless: "operand ins - -",
	impl.IList: "place - - -", impl.IAdd: "place operand - -", impl.IJoin: "place operand - -",
	impl.IFirst: "place operand - -", impl.IPick: "place place element -", impl.ICopy: "place place - -",
	impl.ICall: "place operand operand -", impl.IReturn: "operand - - -", impl.IThrow: "operand - - -",
	impl.ITry: "ins trykeep - -", impl.IEndTry: "- - - -", impl.IScope: "keep - - -", impl.IKeep: "keep - - -",
	impl.IDefer: "operand operand - -", impl.ILeave: "- - - -",
	impl.IFor: "three - - -", impl.IForTest: "three ins - -", impl.IForNext: "three ins - -",
	impl.IEach: "two - - -", impl.IEachNext: "two ins place -", impl.IDrop: "place - - -",
}

// fieldCode has ins at instruction 1 of proto 1, with 10 registers, 3 consts, 2 ups and 3 instructions.
func fieldCode(ins impl.Ins) impl.Code {
	p := impl.Proto{Regs: 10, Ups: make([]impl.Up, 2), Consts: make([]impl.Value, 3)}
	p.Ins = []impl.Ins{{Op: impl.ITick}, ins, {Op: impl.IJump}}
	last := impl.Proto{Ins: []impl.Ins{{Op: impl.ITick}, {Op: impl.IJump}}}
	return impl.Code{Protos: []impl.Proto{last, p, last}}
}

func fieldsAs(op int, f [4]int) impl.Ins {
	return impl.Ins{Op: op, A: f[0], B: f[1], C: f[2], D: f[3]}
}

func TestFieldsOfInstructions(t *testing.T) {
	bad := impl.Fault{Code: 5, Proto: 1, At: 1}
	for op := 1; op <= impl.ILast; op++ {
		kinds := strings.Fields(fieldsOfOps[op])
		good := [4]int{}
		for i, k := range kinds {
			good[i] = fieldEdges[k].ok[0]
		}
		for i, k := range kinds {
			for _, x := range fieldEdges[k].ok {
				f := good
				f[i] = x
				if got := impl.CheckCode(fieldCode(fieldsAs(op, f))); got.Code < 6 {
					t.Errorf("%v: got %v", fieldsAs(op, f), got)
				}
			}
			for _, x := range append([]int{huge, tiny, huge - 1, tiny + 1}, fieldEdges[k].bad...) {
				f := good
				f[i] = x
				if got := impl.CheckCode(fieldCode(fieldsAs(op, f))); got != bad {
					t.Errorf("%v: got %v, want %v", fieldsAs(op, f), got, bad)
				}
			}
		}
	}
}

func TestOpsThatThereAreNot(t *testing.T) {
	for _, op := range []int{tiny, -1, 0, impl.ILast + 1, 44, 46, huge} {
		for _, f := range [][4]int{{}, {1, 1, 1, 1}} {
			wantFault(t, "op", fieldCode(fieldsAs(op, f)), impl.Fault{Code: 5, Proto: 1, At: 1})
		}
	}
}

func TestKeepsOfFewRegisters(t *testing.T) {
	loop := []impl.Ins{{Op: impl.ITry, A: 1, B: 0}, {Op: impl.IThrow, A: 0}}
	wantFault(t, "one register", bare(1, loop...), impl.Fault{Code: 5})
	wantFault(t, "no register", bare(0, impl.Ins{Op: impl.IScope}, impl.Ins{Op: impl.ITick}, impl.Ins{Op: impl.IJump, A: 1}), impl.Fault{})
}

func TestEndsOfProtos(t *testing.T) {
	wantFault(t, "nothing", bare(1), impl.Fault{Code: 5})
	for op := 1; op <= impl.ILast; op++ {
		f := [4]int{}
		for i, k := range strings.Fields(fieldsOfOps[op]) {
			f[i] = fieldEdges[k].ok[0]
		}
		c := fieldCode(impl.Ins{Op: impl.ITick})
		c.Protos[1].Ins[2] = fieldsAs(op, f)
		got := impl.CheckCode(c)
		ends := op == impl.IJump || op == impl.IReturn || op == impl.IThrow
		if ends != (got != impl.Fault{Code: 5, Proto: 1, At: 2}) {
			t.Errorf("op %d at the end: got %v", op, got)
		}
	}
}

func TestMakingOfFns(t *testing.T) {
	for _, x := range []struct {
		name  string
		spoil func(c *impl.Code)
		want  impl.Fault
	}{
		{"itself", func(c *impl.Code) { c.Protos[0].Ins[3].B = 0 }, impl.Fault{Code: 6, At: 3}},
		{"one ahead", func(c *impl.Code) { c.Protos[1].Ins[0] = impl.Ins{Op: impl.IFn, A: 2, B: 0} }, impl.Fault{Code: 6, Proto: 1}},
		{"twice", func(c *impl.Code) { c.Protos[0].Ins[4] = impl.Ins{Op: impl.IFn, A: 3, B: 1} }, impl.Fault{Code: 6, At: 4}},
		{"never", func(c *impl.Code) { c.Protos = append(c.Protos, c.Protos[1]) }, impl.Fault{Code: 7, Proto: 2}},
		{"made where none comes", func(c *impl.Code) {
			c.Protos[0].Ins = append(c.Protos[0].Ins, impl.Ins{Op: impl.IFn, A: 2, B: 1}, impl.Ins{Op: impl.IReturn, A: 3})
		}, impl.Fault{Code: 6, At: 7}},
		{"two never", func(c *impl.Code) { c.Protos = append(c.Protos, c.Protos[1], c.Protos[1]) }, impl.Fault{Code: 7, Proto: 2}},
		{"last register", func(c *impl.Code) { c.Protos[1].Ups[0].Index = 3 }, impl.Fault{Code: 10, At: 3}},
		{"register beyond", func(c *impl.Code) { c.Protos[1].Ups[0].Index = 4 }, impl.Fault{Code: 6, At: 3}},
		{"register below 0", func(c *impl.Code) { c.Protos[1].Ups[0].Index = -1 }, impl.Fault{Code: 6, At: 3}},
		{"no up", func(c *impl.Code) { c.Protos[1].Ups[0] = impl.Up{} }, impl.Fault{Code: 6, At: 3}},
		{"second up", func(c *impl.Code) { c.Protos[1].Ups = append(c.Protos[1].Ups, impl.Up{Local: true, Index: huge}) }, impl.Fault{Code: 6, At: 3}},
	} {
		c := plainCode()
		x.spoil(&c)
		wantFault(t, x.name, c, x.want)
	}
}

// nested is a code of three protos, each made in the one ahead; the last one shares an up of the second.
func nested(up impl.Up) impl.Code {
	c := plainCode()
	c.Protos[1].Ins = append([]impl.Ins{{Op: impl.IFn, A: 2, B: 2}}, c.Protos[1].Ins...)
	c.Protos = append(c.Protos, impl.Proto{Regs: 1, Ups: []impl.Up{up}, Ins: back()})
	return c
}

func TestUpsOfUps(t *testing.T) {
	wantFault(t, "an up", nested(impl.Up{Index: 0}), impl.Fault{})
	wantFault(t, "no up", nested(impl.Up{Index: 1}), impl.Fault{Code: 6, Proto: 1})
	wantFault(t, "below 0", nested(impl.Up{Index: -1}), impl.Fault{Code: 6, Proto: 1})
	wantFault(t, "no box", nested(impl.Up{Local: true, Index: 0}), impl.Fault{Code: 10, Proto: 1})
}

// The spoilers each bring a fault of their code; the later one in a pair must not hide the earlier.
func TestWhichShapeFaultComesFirst(t *testing.T) {
	spoilers := []func(c *impl.Code, p int){
		func(c *impl.Code, p int) { c.Protos[p].Line = -1 },
		func(c *impl.Code, p int) { c.Protos[p].Consts = []impl.Value{{Kind: 9}} },
		func(c *impl.Code, p int) { c.Protos[p].Named = []impl.Named{{}} },
		func(c *impl.Code, p int) { c.Protos[p].Ins[0] = impl.Ins{} },
		func(c *impl.Code, p int) { c.Protos[p].Ins[0] = impl.Ins{Op: impl.IFn, A: 2} },
		func(c *impl.Code, p int) { c.Protos = append(c.Protos, c.Protos[1]) },
		func(c *impl.Code, p int) { c.Protos[0].Ins[2] = impl.Ins{Op: impl.IBox, A: 1, B: 3} },
	}
	codes := []int{2, 3, 4, 5, 6, 7, 10}
	for first := range spoilers {
		for later := first; later < len(spoilers); later++ {
			c := plainCode()
			spoilers[later](&c, 0)
			spoilers[first](&c, 1)
			if got := impl.CheckCode(c); got.Code != codes[first] {
				t.Errorf("%d and %d: got %v", codes[first], codes[later], got)
			}
		}
	}
	c := plainCode()
	c.Protos[0].Ins[5].D, c.Protos[0].Ins[4].D, c.Protos[1].Ins[0].D = 1, 1, 1
	wantFault(t, "by proto, then by instruction", c, impl.Fault{Code: 5, At: 4})
	c.Protos = append(c.Protos, make([]impl.Proto, impl.MaxProtos)...)
	wantFault(t, "the size first", c, impl.Fault{Code: 1})
}
