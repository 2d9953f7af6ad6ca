package impl

import (
	"math"
	"reflect"
	"slices"
	"strings"
	"testing"
)

// The words of 1.1 and 1.2 are no calls of the library, so that they are
// asked from inside of the package.

var (
	nan      = floatValue(math.NaN())
	infinity = floatValue(math.Inf(1))
	minus0   = floatValue(math.Copysign(0, -1))
	table3   = Value{Kind: KTable, Ref: 3}
	fn3      = Value{Kind: KFn, Ref: 3}
	printing = Value{Kind: KBuiltin, Num: BPrint}
	no       = boolValue(false)
	yes      = boolValue(true)
	broken   = Value{Kind: KInt, Ref: 1}
)

func everyKind() []Value {
	return []Value{{}, no, yes, intValue(0), intValue(-5), floatValue(2.5), minus0, nan, infinity,
		textValue(""), textValue("a"), table3, fn3, {Kind: KTask, Ref: 3}, printing, broken, {Kind: 9}, {Kind: -1}}
}

func sameAnswer(a, b Valued) bool {
	if math.IsNaN(a.Value.Flt) && math.IsNaN(b.Value.Flt) {
		a.Value.Flt, b.Value.Flt = 0, 0
	}
	return a == b && math.Signbit(a.Value.Flt) == math.Signbit(b.Value.Flt)
}

func TestValid(t *testing.T) {
	minus := math.Copysign(0, -1)
	good := []Value{{}, {Flt: minus}, no, yes, {Kind: KInt, Num: math.MinInt64, Flt: minus}, nan, infinity,
		textValue(strings.Repeat("x", MaxStr)), {Kind: KTable}, {Kind: KFn, Ref: math.MaxInt}, {Kind: KTask}, {Kind: KBuiltin, Num: Builtins - 1}}
	bad := []Value{{Num: 1}, {Flt: 1}, {Flt: math.NaN()}, {Str: "a"}, {Ref: 1}, {Kind: KBool, Num: 2}, {Kind: KBool, Num: -1},
		{Kind: KInt, Flt: 1}, {Kind: KFlt, Num: 1}, {Kind: KFlt, Str: "a"}, textValue(strings.Repeat("x", MaxStr+1)), {Kind: KStr, Ref: 1},
		{Kind: KTable, Ref: -1}, {Kind: KFn, Num: 1}, {Kind: KTask, Ref: math.MinInt}, {Kind: KBuiltin, Num: Builtins}, {Kind: KBuiltin, Num: -1}, {Kind: 9}, {Kind: -1}}
	for _, v := range good {
		if !valid(v) {
			t.Errorf("%v is valid", v)
		}
	}
	for _, v := range bad {
		if valid(v) {
			t.Errorf("%v is not valid", v)
		}
	}
}

func TestTruth(t *testing.T) {
	for _, v := range everyKind() {
		if want := valid(v) && v.Kind != KNil && v != no; truth(v) != want {
			t.Errorf("%v: %v", v, !want)
		}
	}
}

func TestNumbersAreComparedExactly(t *testing.T) {
	const big = 1 << 53
	for i, x := range []struct {
		a, b Value
		want int
	}{
		{intValue(1), floatValue(1), 0},
		{intValue(0), minus0, 0},
		{floatValue(0), minus0, 0},
		{intValue(big + 1), floatValue(big), 1},
		{intValue(big), floatValue(big), 0},
		{intValue(-big - 1), floatValue(-big), -1},
		{intValue(math.MaxInt64), floatValue(1 << 63), -1},
		{intValue(math.MinInt64), floatValue(-1 << 63), 0},
		{intValue(math.MinInt64), floatValue(-1.5e19), 1},
		{intValue(math.MaxInt64), infinity, -1},
		{intValue(math.MinInt64), floatValue(math.Inf(-1)), 1},
		{intValue(2), floatValue(2.5), -1},
		{intValue(3), floatValue(2.5), 1},
		{intValue(-2), floatValue(-2.5), 1},
		{intValue(-3), floatValue(-2.5), -1},
		{intValue(0), floatValue(5e-324), -1},
		{intValue(0), floatValue(-5e-324), 1},
		{intValue(5), intValue(-5), 1},
		{floatValue(1.5), floatValue(2.5), -1},
		{infinity, infinity, 0},
	} {
		if got := compare(x.a, x.b); got != x.want {
			t.Errorf("case %d: %d", i, got)
		}
		if got := compare(x.b, x.a); got != -x.want {
			t.Errorf("case %d, turned around: %d", i, got)
		}
		if same(x.a, x.b) != (x.want == 0) || same(x.b, x.a) != (x.want == 0) {
			t.Errorf("case %d: same", i)
		}
	}
}

func TestWhatIsNotOrdered(t *testing.T) {
	for _, v := range []Value{intValue(1), floatValue(1), nan, infinity} {
		if compare(v, nan) != 2 || compare(nan, v) != 2 || same(v, nan) || same(nan, v) {
			t.Errorf("%v and a NaN", v)
		}
	}
	kinds := everyKind()
	for i, a := range kinds {
		for j, b := range kinds {
			numbers := valid(a) && valid(b) && isNumber(a) && isNumber(b)
			texts := a.Kind == KStr && b.Kind == KStr
			if (compare(a, b) == 3) == (numbers || texts) {
				t.Errorf("compare %v and %v: %d", a, b, compare(a, b))
			}
			if !numbers && same(a, b) != (i == j && valid(a)) {
				t.Errorf("same %v and %v: %v", a, b, same(a, b))
			}
		}
	}
	if compare(textValue("a"), textValue("ab")) != -1 || compare(textValue("b"), textValue("ab")) != 1 || compare(textValue("\xff"), textValue("é")) != 1 {
		t.Error("texts are compared byte by byte")
	}
	if !same(Value{Kind: KInt, Num: 1, Flt: math.Copysign(0, -1)}, intValue(1)) || same(table3, Value{Kind: KTable, Ref: 4}) || same(table3, fn3) {
		t.Error("same asks the fields that are used")
	}
}

func TestBinary(t *testing.T) {
	i, f, s := intValue, floatValue, textValue
	value := func(v Value) Valued { return Valued{Value: v} }
	code := func(c int) Valued { return Valued{Code: c} }
	least := i(math.MinInt64)
	for n, x := range []struct {
		op   int
		a, b Value
		want Valued
	}{
		{OpAdd, i(math.MaxInt64), i(1), value(least)}, {OpAdd, i(1), f(0.5), value(f(1.5))}, {OpAdd, i(1<<53 + 1), f(0), value(f(1 << 53))},
		{OpSub, least, i(1), value(i(math.MaxInt64))}, {OpSub, f(1), i(3), value(f(-2))},
		{OpMul, i(1 << 62), i(4), value(i(0))}, {OpMul, f(-1), i(0), value(minus0)},
		{OpDiv, i(1), i(2), value(f(0.5))}, {OpDiv, i(1), i(0), value(infinity)}, {OpDiv, i(0), i(0), value(nan)},
		{OpIDiv, i(7), i(2), value(i(3))}, {OpIDiv, i(-7), i(2), value(i(-4))}, {OpIDiv, i(7), i(-2), value(i(-4))}, {OpIDiv, i(-7), i(-2), value(i(3))},
		{OpIDiv, i(-6), i(2), value(i(-3))}, {OpIDiv, least, i(-1), value(least)}, {OpIDiv, i(1), i(0), code(ErrZero)},
		{OpIDiv, f(-7), i(2), value(f(-4))}, {OpIDiv, f(1), i(0), value(infinity)}, {OpIDiv, minus0, i(1), value(minus0)},
		{OpMod, i(7), i(2), value(i(1))}, {OpMod, i(-7), i(2), value(i(1))}, {OpMod, i(7), i(-2), value(i(-1))}, {OpMod, least, i(-1), value(i(0))},
		{OpMod, i(7), i(0), code(ErrZero)}, {OpMod, f(5.5), i(2), value(f(1.5))}, {OpMod, f(-5.5), i(2), value(f(0.5))}, {OpMod, f(1), f(0), value(nan)},
		{OpMod, f(1), infinity, value(nan)}, {OpMod, f(5.3), f(0.1), value(f(0x1.999999999998p-4))},
		{OpAnd, i(6), i(3), value(i(2))}, {OpOr, i(6), i(3), value(i(7))}, {OpXor, i(6), i(3), value(i(5))}, {OpAnd, i(6), f(3), code(ErrType)},
		{OpShl, i(1), i(63), value(least)}, {OpShl, i(1), i(64), value(i(0))}, {OpShl, i(1), i(-1), code(ErrRange)}, {OpShl, i(1), i(math.MaxInt64), value(i(0))},
		{OpShr, i(-1), i(1), value(i(math.MaxInt64))}, {OpShr, i(-1), i(63), value(i(1))}, {OpShr, i(-1), i(64), value(i(0))}, {OpShr, i(-1), i(-1), code(ErrRange)},
		{OpJoin, s("a"), i(-1), value(s("a-1"))}, {OpJoin, f(1.5), s(""), value(s("3p-1"))}, {OpJoin, s("a"), Value{}, code(ErrType)}, {OpJoin, yes, s("a"), code(ErrType)},
		{OpJoin, s(strings.Repeat("x", MaxStr-1)), i(1), value(s(strings.Repeat("x", MaxStr-1) + "1"))}, {OpJoin, s(strings.Repeat("x", MaxStr)), i(1), code(ErrLong)},
		{OpEq, i(1), f(1), value(yes)}, {OpEq, nan, nan, value(no)}, {OpNe, nan, nan, value(yes)}, {OpEq, Value{}, no, value(no)}, {OpNe, table3, table3, value(no)},
		{OpLt, i(1), i(2), value(yes)}, {OpLt, i(2), i(2), value(no)}, {OpLe, i(2), f(2), value(yes)}, {OpGt, s("b"), s("a"), value(yes)}, {OpGe, s("a"), s("b"), value(no)}, {OpGe, i(2), i(2), value(yes)}, {OpGt, i(2), i(2), value(no)},
		{OpLt, nan, i(1), value(no)}, {OpLe, nan, i(1), value(no)}, {OpGt, nan, i(1), value(no)}, {OpGe, nan, i(1), value(no)},
		{OpLt, s("a"), i(1), code(ErrType)}, {OpGe, table3, table3, code(ErrType)}, {OpAdd, s("1"), i(1), code(ErrType)}, {OpIDiv, s("1"), i(0), code(ErrType)}, {OpShl, f(1), i(-1), code(ErrType)},
		{OpEq, broken, broken, code(ErrType)}, {OpEq, i(1), broken, code(ErrType)}, {0, i(1), i(1), code(ErrType)}, {OpNeg, i(1), i(1), code(ErrType)}, {-1, i(1), i(1), code(ErrType)},
	} {
		if got := binary(x.op, x.a, x.b); !sameAnswer(got, x.want) {
			t.Errorf("case %d, op %d: %v, want %v", n, x.op, got, x.want)
		}
	}
}

func TestUnary(t *testing.T) {
	for n, x := range []struct {
		op   int
		v    Value
		want Valued
	}{
		{OpNeg, intValue(math.MinInt64), Valued{Value: intValue(math.MinInt64)}}, {OpNeg, intValue(3), Valued{Value: intValue(-3)}},
		{OpNeg, floatValue(0), Valued{Value: minus0}}, {OpNeg, textValue("1"), Valued{Code: ErrType}},
		{OpFlip, intValue(0), Valued{Value: intValue(-1)}}, {OpFlip, floatValue(1), Valued{Code: ErrType}},
		{OpNot, Value{}, Valued{Value: yes}}, {OpNot, intValue(0), Valued{Value: no}}, {OpNot, broken, Valued{Code: ErrType}},
		{OpLen, textValue("é"), Valued{Value: intValue(2)}}, {OpLen, table3, Valued{Code: ErrType}},
		{OpAdd, intValue(1), Valued{Code: ErrType}}, {23, intValue(1), Valued{Code: ErrType}},
	} {
		if got := unary(x.op, x.v); !sameAnswer(got, x.want) {
			t.Errorf("case %d: %v, want %v", n, got, x.want)
		}
	}
}

func TestTexts(t *testing.T) {
	for want, v := range map[string]Value{
		"nil": {}, "true": yes, "false": no, "-9223372036854775808": intValue(math.MinInt64), "a b": textValue("a b"),
		"table": table3, "fn": fn3, "task": {Kind: KTask}, "builtin": printing, "": broken,
		"nan": nan, "inf": infinity, "-inf": floatValue(math.Inf(-1)), "0p0": floatValue(0), "-0p0": minus0,
		"3p-1": floatValue(1.5), "-1p3": floatValue(-8), "1p0": floatValue(1), "1p-1074": floatValue(5e-324), "-3p-1074": floatValue(-3 * 5e-324),
		"9007199254740991p971": floatValue(math.MaxFloat64), "3602879701896397p-55": floatValue(0.1), "1p-1022": floatValue(0x1p-1022),
	} {
		if got := textOf(v); got != want {
			t.Errorf("%v: %q, want %q", v, got, want)
		}
	}
}

func TestKeys(t *testing.T) {
	for _, x := range []struct {
		v    Value
		want Valued
	}{
		{floatValue(2), Valued{Value: intValue(2)}}, {minus0, Valued{Value: intValue(0)}}, {floatValue(-1 << 63), Valued{Value: intValue(math.MinInt64)}},
		{floatValue(1 << 63), Valued{Value: floatValue(1 << 63)}}, {floatValue(2.5), Valued{Value: floatValue(2.5)}}, {infinity, Valued{Value: infinity}},
		{textValue("1"), Valued{Value: textValue("1")}}, {no, Valued{Value: no}}, {table3, Valued{Value: table3}},
		{Value{}, Valued{Code: ErrKey}}, {nan, Valued{Code: ErrKey}}, {broken, Valued{Code: ErrType}},
	} {
		if got := keyOf(x.v); got != x.want {
			t.Errorf("%v: %v", x.v, got)
		}
	}
}

// put is the word Put, on a table that is to stay as it is.
func put(t Table, k, v Value) Table {
	key := keyOf(k)
	if key.Code != 0 || !valid(v) {
		return Table{}
	}
	t.Pairs = slices.Clone(t.Pairs)
	return putAt(t, placeOf(t, k), key.Value, v)
}

func ints(keys ...int64) Table {
	t := Table{}
	for _, k := range keys {
		t = put(t, intValue(k), yes)
	}
	return t
}

func TestPairsComeAndGo(t *testing.T) {
	one := put(ints(5, 1), floatValue(1), textValue("x"))
	if !reflect.DeepEqual(one, Table{Turns: 2, Pairs: []Pair{{Key: intValue(5), Val: yes, Turn: 1}, {Key: intValue(1), Val: textValue("x"), Turn: 2}}}) {
		t.Error(one)
	}
	gone := put(one, intValue(5), Value{})
	if len(gone.Pairs) != 1 || gone.Turns != 2 || gone.Pairs[0].Turn != 2 || len(one.Pairs) != 2 || one.Pairs[0].Key.Num != 5 {
		t.Error(gone, one)
	}
	again := put(gone, intValue(5), no)
	if again.Turns != 3 || again.Pairs[1] != (Pair{Key: intValue(5), Val: no, Turn: 3}) || len(gone.Pairs) != 1 {
		t.Error(again, gone)
	}
	if got := put(again, intValue(7), Value{}); !reflect.DeepEqual(got, again) {
		t.Error("nothing to take out", got)
	}
	for _, x := range [][2]Value{{{}, yes}, {nan, yes}, {broken, yes}, {yes, broken}} {
		if got := put(one, x[0], x[1]); len(got.Pairs) != 0 || got.Turns != 0 {
			t.Error(x, got)
		}
	}
	if get(again, floatValue(5)) != no || get(again, intValue(9)) != (Value{}) || get(again, nan) != (Value{}) || get(again, broken) != (Value{}) {
		t.Error("get")
	}
}

func TestFullTables(t *testing.T) {
	full := Table{}
	for k := range MaxPairs {
		full = put(full, intValue(int64(MaxPairs-k)), yes)
	}
	if len(full.Pairs) != MaxPairs || length(full) != MaxPairs {
		t.Error("most pairs")
	}
	if got := put(full, intValue(0), yes); !reflect.DeepEqual(got, full) {
		t.Error("one more pair")
	}
	if get(put(full, intValue(9), no), intValue(9)) != no {
		t.Error("another value of a pair")
	}
	old := Table{Turns: maxTurns}
	if got := put(old, yes, yes); len(got.Pairs) != 0 || got.Turns != maxTurns {
		t.Error("one more turn")
	}
	old.Turns--
	if got := put(old, yes, yes); len(got.Pairs) != 1 || got.Turns != maxTurns {
		t.Error("the last turn")
	}
}

func TestAfterAndLength(t *testing.T) {
	x := put(put(ints(1, 2, 3), intValue(2), Value{}), intValue(2), yes)
	turns := []int{}
	for f := after(x, 0); f.Found; f = after(x, f.Pair.Turn) {
		turns = append(turns, f.Pair.Turn)
	}
	if !slices.Equal(turns, []int{1, 3, 4}) || after(x, 4) != (Found{}) || after(Table{}, -1) != (Found{}) {
		t.Error(turns)
	}
	for want, keys := range [][]int64{{0, 2, 3}, {1, 3}, {2, 1, -1}, {3, 1, 2}} {
		if got := length(ints(keys...)); got != want {
			t.Errorf("%v: %d", keys, got)
		}
	}
	if length(Table{}) != 0 || length(ints(math.MaxInt64, math.MinInt64, 1)) != 1 {
		t.Error("length")
	}
}

func TestStates(t *testing.T) {
	c := Code{Protos: []Proto{{Regs: 3, Rest: true, Consts: []Value{yes}, Ins: []Ins{
		{Op: IScope, A: 3},
		{Op: ITry, A: 5, B: 1},
		{Op: IConst, A: 1},
		{Op: IReturn, A: 0},
		{Op: ITick},
		{Op: IThrow, A: 1},
	}}}}
	scope, try := Guard{Keep: 3}, Guard{Try: true, Keep: 1, Handler: 5}
	want := []State{
		{Reached: true, Types: []int{TList, TNone, TNone}},
		{Reached: true, Types: []int{TList, TNone, TNone}, Guards: []Guard{scope}},
		{Reached: true, Types: []int{TList, TNone, TNone}, Guards: []Guard{scope, try}},
		{Reached: true, Types: []int{TList, TValue, TNone}, Guards: []Guard{scope, try}},
		{},
		{Reached: true, Types: []int{TList, TValue, TValue}, Guards: []Guard{scope}},
	}
	got, fault := verify(c, 0)
	if fault != (Fault{}) || !reflect.DeepEqual(got, want) {
		t.Errorf("%v %v", got, fault)
	}
	c.Protos[0].Ins[3].A = 1
	if got, fault = verify(c, 0); got != nil || fault.Code != 10 {
		t.Errorf("%v %v", got, fault)
	}
}
