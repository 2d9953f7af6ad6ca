package tests

import (
	"math"
	"math/big"
	"strconv"
	"strings"

	"loop.example/loom/impl"
)

// A second reading of 1.1 and 1.2, for values and tables that are valid: the
// second readings of what instructions do lean on it.

func valBool(b bool) impl.Value {
	if b {
		return impl.Value{Kind: 1, Num: 1}
	}
	return impl.Value{Kind: 1}
}

func valTruth(v impl.Value) bool { return v.Kind > 1 || v.Kind == 1 && v.Num == 1 }

func valNumber(v impl.Value) bool { return v.Kind == 2 || v.Kind == 3 }

func valFloat(v impl.Value) float64 {
	if v.Kind == 2 {
		return float64(v.Num)
	}
	return v.Flt
}

func valNaN(v impl.Value) bool { return v.Kind == 3 && v.Flt != v.Flt }

// valExact is a number that is no NaN, exactly; infinities as themselves.
func valExact(v impl.Value) *big.Float {
	x := new(big.Float).SetPrec(2000)
	if v.Kind == 2 {
		return x.SetInt64(v.Num)
	}
	return x.SetFloat64(v.Flt)
}

func valSame(a, b impl.Value) bool {
	if valNumber(a) && valNumber(b) {
		return !valNaN(a) && !valNaN(b) && valExact(a).Cmp(valExact(b)) == 0
	}
	return a == b
}

func valCompare(a, b impl.Value) int {
	switch {
	case valNumber(a) && valNumber(b) && (valNaN(a) || valNaN(b)):
		return 2
	case valNumber(a) && valNumber(b):
		return valExact(a).Cmp(valExact(b))
	case a.Kind == 4 && b.Kind == 4 && a.Str < b.Str:
		return -1
	case a.Kind == 4 && b.Kind == 4 && a.Str > b.Str:
		return 1
	case a.Kind == 4 && b.Kind == 4:
		return 0
	}
	return 3
}

func valText(v impl.Value) string {
	switch v.Kind {
	case 1:
		return []string{"false", "true"}[v.Num]
	case 2:
		return strconv.Itoa(int(v.Num))
	case 3:
		return valFloatText(v.Flt)
	case 4:
		return v.Str
	}
	return []string{"nil", "", "", "", "", "table", "fn", "task", "builtin"}[v.Kind]
}

func valFloatText(f float64) string {
	switch {
	case f != f:
		return "nan"
	case f-f != 0 && f > 0:
		return "inf"
	case f-f != 0:
		return "-inf"
	case f == 0 && 1/f < 0:
		return "-0p0"
	case f == 0:
		return "0p0"
	}
	m, e, _ := strings.Cut(strconv.FormatFloat(f, 'b', -1, 64), "p")
	whole, _ := strconv.Atoi(m)
	power, _ := strconv.Atoi(e)
	for whole%2 == 0 {
		whole, power = whole/2, power+1
	}
	return strconv.Itoa(whole) + "p" + strconv.Itoa(power)
}

// valBinary answers a code and a value.
func valBinary(op int, a, b impl.Value) (int, impl.Value) {
	ints, numbers := a.Kind == 2 && b.Kind == 2, valNumber(a) && valNumber(b)
	joins := (a.Kind == 4 || valNumber(a)) && (b.Kind == 4 || valNumber(b))
	switch {
	case op == 13:
		return 0, valBool(valSame(a, b))
	case op == 14:
		return 0, valBool(!valSame(a, b))
	case op == 12 && joins && len(valText(a))+len(valText(b)) > 4000:
		return 4, impl.Value{}
	case op == 12 && joins:
		return 0, text(valText(a) + valText(b))
	case op >= 15 && valCompare(a, b) != 3:
		holds := map[int]string{15: "-1 ", 16: "-1 0 ", 17: "1 ", 18: "1 0 "}[op]
		return 0, valBool(strings.Contains(" "+holds, " "+strconv.Itoa(valCompare(a, b))+" "))
	case op <= 11 && op != 4 && ints:
		return valInts(op, a.Num, b.Num)
	case op <= 6 && numbers:
		return 0, float(valFloats(op, valFloat(a), valFloat(b)))
	}
	return 1, impl.Value{}
}

func valInts(op int, a, b int64) (int, impl.Value) {
	x, y, z := big.NewInt(a), big.NewInt(b), new(big.Int)
	if b == 0 && (op == 5 || op == 6) {
		return 2, impl.Value{}
	}
	if b < 0 && (op == 10 || op == 11) {
		return 3, impl.Value{}
	}
	switch op {
	case 1:
		z.Add(x, y)
	case 2:
		z.Sub(x, y)
	case 3:
		z.Mul(x, y)
	case 5, 6:
		rest := new(big.Int)
		z.QuoRem(x, y, rest)
		if rest.Sign()*y.Sign() < 0 {
			z.Sub(z, big.NewInt(1))
		}
		if op == 6 {
			z.Sub(x, z.Mul(z, y))
		}
	case 7:
		z.And(x, y)
	case 8:
		z.Or(x, y)
	case 9:
		z.Xor(x, y)
	case 10, 11:
		return 0, number(valShift(op, a, b))
	}
	return 0, number(valWrapped(z))
}

func valShift(op int, a, b int64) int64 {
	for i := int64(0); i < b && i < 64; i++ {
		if op == 10 {
			a = a * 2
		} else {
			a = int64(uint64(a) / 2)
		}
	}
	return a
}

// valWrapped is a whole number modulo 2^64.
func valWrapped(z *big.Int) int64 {
	m := new(big.Int).Lsh(big.NewInt(1), 64)
	return int64(z.Mod(z, m).Uint64())
}

func valFloats(op int, a, b float64) float64 {
	quotient := a / b
	switch op {
	case 1:
		return a + b
	case 2:
		return a - b
	case 3:
		return a * b
	case 4:
		return quotient
	case 5:
		return math.Floor(quotient)
	}
	times := float64(math.Floor(quotient) * b)
	return a - times
}

func valUnary(op int, v impl.Value) (int, impl.Value) {
	switch {
	case op == 21:
		return 0, valBool(!valTruth(v))
	case op == 19 && v.Kind == 2:
		return 0, number(0 - v.Num)
	case op == 19 && v.Kind == 3:
		return 0, float(math.Copysign(v.Flt, -math.Copysign(1, v.Flt)))
	case op == 20 && v.Kind == 2:
		return 0, number(-1 - v.Num)
	case op == 22 && v.Kind == 4:
		return 0, number(int64(len(v.Str)))
	}
	return 1, impl.Value{}
}

// valKey is what a value is as a key; false when it can be none.
func valKey(v impl.Value) (impl.Value, bool) {
	if v.Kind == 0 || valNaN(v) {
		return impl.Value{}, false
	}
	if v.Kind == 3 && !math.IsInf(v.Flt, 0) {
		if z, way := valExact(v).Int(nil); way == big.Exact && z.IsInt64() {
			return number(z.Int64()), true
		}
	}
	return v, true
}

// tabAt is the number of the pair for a key, -1 when there is none.
func tabAt(t impl.Table, k impl.Value) int {
	key, ok := valKey(k)
	for i, p := range t.Pairs {
		if ok && valSame(p.Key, key) {
			return i
		}
	}
	return -1
}

func tabGet(t impl.Table, k impl.Value) impl.Value {
	if i := tabAt(t, k); i >= 0 {
		return t.Pairs[i].Val
	}
	return impl.Value{}
}

// tabPut puts a value at a key that can be one, where there is room.
func tabPut(t impl.Table, k, v impl.Value) impl.Table {
	key, _ := valKey(k)
	i := tabAt(t, k)
	out := impl.Table{Turns: t.Turns}
	for j, p := range t.Pairs {
		if j == i {
			p.Val = v
		}
		if p.Val.Kind != 0 {
			out.Pairs = append(out.Pairs, p)
		}
	}
	if i < 0 && v.Kind != 0 {
		out.Turns++
		out.Pairs = append(out.Pairs, impl.Pair{Key: key, Val: v, Turn: out.Turns})
	}
	return out
}

func tabAfter(t impl.Table, turn int) (impl.Pair, bool) {
	for i := range t.Pairs {
		if t.Pairs[i].Turn > turn {
			return t.Pairs[i], true
		}
	}
	return impl.Pair{}, false
}

func tabLength(t impl.Table) int {
	n := 0
	for tabAt(t, number(int64(n+1))) >= 0 {
		n++
	}
	return n
}
