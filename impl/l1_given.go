package impl

import (
	"cmp"
	"math"
	"math/bits"
	"slices"
	"strconv"
	"strings"
)

const (
	KNil     = 0
	KBool    = 1
	KInt     = 2
	KFlt     = 3
	KStr     = 4
	KTable   = 5
	KFn      = 6
	KTask    = 7
	KBuiltin = 8
)

const (
	OpAdd  = 1
	OpSub  = 2
	OpMul  = 3
	OpDiv  = 4
	OpIDiv = 5
	OpMod  = 6
	OpAnd  = 7
	OpOr   = 8
	OpXor  = 9
	OpShl  = 10
	OpShr  = 11
	OpJoin = 12
	OpEq   = 13
	OpNe   = 14
	OpLt   = 15
	OpLe   = 16
	OpGt   = 17
	OpGe   = 18
	OpNeg  = 19
	OpFlip = 20
	OpNot  = 21
	OpLen  = 22
)

const (
	ErrType  = 1
	ErrZero  = 2
	ErrRange = 3
	ErrLong  = 4
	ErrKey   = 5
	ErrCall  = 6
	ErrIndex = 7
	ErrDepth = 8
	ErrCells = 9
	ErrTask  = 10
	ErrLoop  = 11
	ErrArgs  = 12
	ErrTicks = 13
	ErrStep  = 14
	ErrUnit  = 15
)

const MaxStr = 4000

// Value is a value of the language.
type Value struct {
	Kind int
	Num  int64
	Flt  float64
	Str  string
	Ref  int
}

// Valued is a value, or the code of an error.
type Valued struct {
	Code  int
	Value Value
}

const MaxPairs = 500

// Pair is a key and its value; Turn tells when the key came.
type Pair struct {
	Key  Value
	Val  Value
	Turn int
}

// Table is the pairs in the order in which their keys came, and how many keys have ever come.
type Table struct {
	Pairs []Pair
	Turns int
}

// Found is a pair, if there is one.
type Found struct {
	Found bool
	Pair  Pair
}

const (
	MaxTicks = 5000
	MaxDepth = 60
	MaxTasks = 100
	MaxCells = 20000
	MaxInput = 200
	MaxChain = 20
	MaxList  = 250
	MaxRecs  = 100000
)

const (
	RecLine  = 1
	RecCall  = 2
	RecBack  = 3
	RecThrow = 4
	RecCatch = 5
	RecPrint = 6
	RecTurn  = 7
	RecLast  = 8
)

// Input is what a run is given: its arguments, the lines that it can read, and its allowances.
type Input struct {
	Args  []string
	Lines []string
	Ticks int
	Depth int
	Cells int
}

// Rec is one thing that a run shows.
type Rec struct {
	Kind int
	Task int
	Fn   int
	Line int
	Text string
}

// Report is all that a run shows.
type Report struct {
	Code  int
	Recs  []Rec
	Vals  []string
	Error string
	Trace string
	Ticks int
	Made  int
}

// Shown is a variable by its name, and the text of its value.
type Shown struct {
	Name string
	Text string
}

// Open is a call that is open: of which fn, at which line, and its variables in scope.
type Open struct {
	Fn   int
	Line int
	Vars []Shown
}

// View is what can be seen at one record of a run.
type View struct {
	Ok    bool
	Task  int
	Calls []Open
}

const (
	MaxProtos = 200
	MaxIns    = 6000
	MaxRegs   = 250
	MaxConsts = 500
	MaxGuards = 50
	MaxName   = 40
	MaxLine   = 100000
)

const (
	ILine     = 1
	IAt       = 2
	ITick     = 3
	IConst    = 4
	IMove     = 5
	IBox      = 6
	IGet      = 7
	IPut      = 8
	IUpGet    = 9
	IUpPut    = 10
	IFn       = 11
	ITable    = 12
	IRaw      = 13
	IRawAll   = 14
	IIndex    = 15
	ISet      = 16
	IUnary    = 17
	IBinary   = 18
	IJump     = 19
	IIf       = 20
	IUnless   = 21
	IList     = 22
	IAdd      = 23
	IJoin     = 24
	IFirst    = 25
	IPick     = 26
	ICopy     = 27
	ICall     = 28
	IReturn   = 29
	IThrow    = 30
	ITry      = 31
	IEndTry   = 32
	IScope    = 33
	IKeep     = 34
	IDefer    = 35
	ILeave    = 36
	IFor      = 37
	IForTest  = 38
	IForNext  = 39
	IEach     = 40
	IEachNext = 41
	IDrop     = 42
	ILast     = 42
)

const (
	TNone  = 0
	TValue = 1
	TBox   = 2
	TList  = 3
)

const (
	BPrint   = 0
	BRead    = 1
	BType    = 2
	BText    = 3
	BSetKind = 4
	BKind    = 5
	BRawGet  = 6
	BRawSet  = 7
	BTask    = 8
	BResume  = 9
	BYield   = 10
	BStatus  = 11
	BGiveUp  = 12
	BCollect = 13
	BCells   = 14
	Builtins = 15
)

// Ins is an instruction.
type Ins struct {
	Op int
	A  int
	B  int
	C  int
	D  int
}

// Up says what a fn closes over: a box in a register of the fn in which it is made, or what that one closes over.
type Up struct {
	Local bool
	Index int
}

// Named says that a register holds a variable from one place up to below another.
type Named struct {
	Name string
	Reg  int
	From int
	To   int
}

// Proto is the code of a fn.
type Proto struct {
	Name   string
	Line   int
	Params int
	Rest   bool
	Regs   int
	Ups    []Up
	Consts []Value
	Ins    []Ins
	Named  []Named
}

// Code is the code of a text; proto 0 is the text itself.
type Code struct {
	Protos []Proto
}

// Fault is what is wrong with a code, and where.
type Fault struct {
	Code  int
	Proto int
	At    int
}

// Guard is what an instruction stands inside of: a catch or a block with defers; the registers below Keep stay when it is left by an error.
type Guard struct {
	Try     bool
	Keep    int
	Handler int
}

// State is what is known ahead of an instruction: whether it can be reached, the types of the registers, and the guards, the innermost last.
type State struct {
	Reached bool
	Types   []int
	Guards  []Guard
}

// CheckCode tells the first fault of a code, the zero value for one that is verified.
func CheckCode(c Code) Fault {
	if f := checkShape(c); f.Code != 0 {
		return f
	}
	for p := range c.Protos {
		if _, f := verify(c, p); f.Code != 0 {
			return f
		}
	}
	return Fault{}
}

// InputOk tells whether a run may be given this input.
func InputOk(in Input) bool {
	return textsFit(in.Args) && textsFit(in.Lines) &&
		within(in.Ticks, 0, MaxTicks) && within(in.Depth, 1, MaxDepth) && within(in.Cells, 0, MaxCells)
}

func textsFit(texts []string) bool {
	if len(texts) > MaxInput {
		return false
	}
	for _, t := range texts {
		if len(t) > MaxStr {
			return false
		}
	}
	return true
}

func within(x, low, high int) bool { return low <= x && x <= high }

// What values are.

// valid tells whether a value is one of the language. Comparing what is left
// by == lets a zero of either sign stand where a float has to be 0.
func valid(v Value) bool {
	rest, fits := v, true
	switch v.Kind {
	case KNil:
	case KBool:
		rest.Num, fits = 0, v.Num == 0 || v.Num == 1
	case KInt:
		rest.Num = 0
	case KFlt:
		rest.Flt = 0
	case KStr:
		rest.Str, fits = "", len(v.Str) <= MaxStr
	case KTable, KFn, KTask:
		rest.Ref, fits = 0, v.Ref >= 0
	case KBuiltin:
		rest.Num, fits = 0, 0 <= v.Num && v.Num < Builtins
	default:
		return false
	}
	return fits && rest == Value{Kind: v.Kind}
}

func boolValue(b bool) Value {
	if b {
		return Value{Kind: KBool, Num: 1}
	}
	return Value{Kind: KBool}
}

func intValue(n int64) Value { return Value{Kind: KInt, Num: n} }

func floatValue(f float64) Value { return Value{Kind: KFlt, Flt: f} }

func textValue(s string) Value { return Value{Kind: KStr, Str: s} }

func isNumber(v Value) bool { return v.Kind == KInt || v.Kind == KFlt }

func bothInts(a, b Value) bool { return a.Kind == KInt && b.Kind == KInt }

func asFloat(v Value) float64 {
	if v.Kind == KInt {
		return float64(v.Num)
	}
	return v.Flt
}

func truth(v Value) bool {
	return valid(v) && v.Kind != KNil && (v.Kind != KBool || v.Num == 1)
}

func same(a, b Value) bool {
	if !valid(a) || !valid(b) {
		return false
	}
	if isNumber(a) && isNumber(b) {
		return compareNumbers(a, b) == 0
	}
	return a.Kind == b.Kind && a.Num == b.Num && a.Str == b.Str && a.Ref == b.Ref
}

// What compare answers where there is no order: for a NaN, and for values that are not compared.
const (
	unordered    = 2
	incomparable = 3
)

func compare(a, b Value) int {
	switch {
	case !valid(a) || !valid(b):
		return incomparable
	case isNumber(a) && isNumber(b):
		return compareNumbers(a, b)
	case a.Kind == KStr && b.Kind == KStr:
		return strings.Compare(a.Str, b.Str)
	}
	return incomparable
}

func compareNumbers(a, b Value) int {
	switch {
	case bothInts(a, b):
		return cmp.Compare(a.Num, b.Num)
	case math.IsNaN(asFloat(a)) || math.IsNaN(asFloat(b)):
		return unordered
	case a.Kind == KInt:
		return compareIntFloat(a.Num, b.Flt)
	case b.Kind == KInt:
		return -compareIntFloat(b.Num, a.Flt)
	}
	return cmp.Compare(a.Flt, b.Flt)
}

// compareIntFloat makes no float of the int: rounding could make two numbers one. f is no NaN.
func compareIntFloat(n int64, f float64) int {
	if !fitsInt(f) {
		return cmp.Compare(0, f)
	}
	floor := math.Floor(f)
	if order := cmp.Compare(n, int64(floor)); order != 0 {
		return order
	}
	return cmp.Compare(floor, f)
}

// fitsInt tells whether a float lies from -2^63 up to below 2^63.
func fitsInt(f float64) bool { return -(1<<63) <= f && f < 1<<63 }

// What operations give.

func binary(op int, a, b Value) Valued {
	if !valid(a) || !valid(b) {
		return Valued{Code: ErrType}
	}
	switch {
	case within(op, OpAdd, OpMod) && isNumber(a) && isNumber(b):
		return arithmetic(op, a, b)
	case within(op, OpAnd, OpShr) && bothInts(a, b):
		return bitwise(op, a.Num, b.Num)
	case op == OpJoin && joins(a) && joins(b):
		return joined(a, b)
	case op == OpEq:
		return Valued{Value: boolValue(same(a, b))}
	case op == OpNe:
		return Valued{Value: boolValue(!same(a, b))}
	case within(op, OpLt, OpGe):
		return ordered(op, compare(a, b))
	}
	return Valued{Code: ErrType}
}

func arithmetic(op int, a, b Value) Valued {
	if bothInts(a, b) && op != OpDiv {
		return intArithmetic(op, a.Num, b.Num)
	}
	return Valued{Value: floatValue(floatArithmetic(op, asFloat(a), asFloat(b)))}
}

func intArithmetic(op int, a, b int64) Valued {
	if b == 0 && (op == OpIDiv || op == OpMod) {
		return Valued{Code: ErrZero}
	}
	n := int64(0)
	switch op {
	case OpAdd:
		n = a + b
	case OpSub:
		n = a - b
	case OpMul:
		n = a * b
	case OpIDiv:
		n = floorQuotient(a, b)
	case OpMod:
		n = a - b*floorQuotient(a, b)
	}
	return Valued{Value: intValue(n)}
}

func floorQuotient(a, b int64) int64 {
	q := a / b
	if a%b != 0 && (a < 0) != (b < 0) {
		q--
	}
	return q
}

// floatArithmetic turns each result into a float64 by itself: a compiler may
// else round two operations as one.
func floatArithmetic(op int, a, b float64) float64 {
	switch op {
	case OpAdd:
		return float64(a + b)
	case OpSub:
		return float64(a - b)
	case OpMul:
		return float64(a * b)
	case OpDiv:
		return float64(a / b)
	case OpIDiv:
		return math.Floor(float64(a / b))
	}
	return float64(a - float64(math.Floor(float64(a/b))*b))
}

func bitwise(op int, a, b int64) Valued {
	if b < 0 && (op == OpShl || op == OpShr) {
		return Valued{Code: ErrRange}
	}
	n := int64(0)
	switch op {
	case OpAnd:
		n = a & b
	case OpOr:
		n = a | b
	case OpXor:
		n = a ^ b
	case OpShl:
		n = a << uint64(b)
	case OpShr:
		n = int64(uint64(a) >> uint64(b))
	}
	return Valued{Value: intValue(n)}
}

func joins(v Value) bool { return v.Kind == KStr || isNumber(v) }

func joined(a, b Value) Valued {
	text := textOf(a) + textOf(b)
	if len(text) > MaxStr {
		return Valued{Code: ErrLong}
	}
	return Valued{Value: textValue(text)}
}

func ordered(op, order int) Valued {
	if order == incomparable {
		return Valued{Code: ErrType}
	}
	holds := false
	switch op {
	case OpLt:
		holds = order == -1
	case OpLe:
		holds = order == -1 || order == 0
	case OpGt:
		holds = order == 1
	case OpGe:
		holds = order == 1 || order == 0
	}
	return Valued{Value: boolValue(holds)}
}

func unary(op int, v Value) Valued {
	switch {
	case !valid(v):
	case op == OpNeg && v.Kind == KInt:
		return Valued{Value: intValue(-v.Num)}
	case op == OpNeg && v.Kind == KFlt:
		return Valued{Value: floatValue(-v.Flt)}
	case op == OpFlip && v.Kind == KInt:
		return Valued{Value: intValue(^v.Num)}
	case op == OpNot:
		return Valued{Value: boolValue(!truth(v))}
	case op == OpLen && v.Kind == KStr:
		return Valued{Value: intValue(int64(len(v.Str)))}
	}
	return Valued{Code: ErrType}
}

func textOf(v Value) string {
	if !valid(v) {
		return ""
	}
	switch v.Kind {
	case KNil:
		return "nil"
	case KBool:
		return strconv.FormatBool(v.Num == 1)
	case KInt:
		return strconv.FormatInt(v.Num, 10)
	case KFlt:
		return floatText(v.Flt)
	case KStr:
		return v.Str
	case KTable:
		return "table"
	case KFn:
		return "fn"
	case KTask:
		return "task"
	}
	return "builtin"
}

func floatText(f float64) string {
	switch {
	case math.IsNaN(f):
		return "nan"
	case math.IsInf(f, 1):
		return "inf"
	case math.IsInf(f, -1):
		return "-inf"
	case f == 0 && math.Signbit(f):
		return "-0p0"
	case f == 0:
		return "0p0"
	}
	const digits = 53
	part, power := math.Frexp(f)
	whole := int64(math.Ldexp(part, digits))
	zeros := bits.TrailingZeros64(uint64(whole))
	return strconv.FormatInt(whole>>zeros, 10) + "p" + strconv.Itoa(power-digits+zeros)
}

func keyOf(v Value) Valued {
	switch {
	case !valid(v):
		return Valued{Code: ErrType}
	case v.Kind == KNil || v.Kind == KFlt && math.IsNaN(v.Flt):
		return Valued{Code: ErrKey}
	case v.Kind == KFlt && fitsInt(v.Flt) && v.Flt == math.Floor(v.Flt):
		return Valued{Value: intValue(int64(v.Flt))}
	}
	return Valued{Value: v}
}

// What tables hold. No call is given a table, and the machine keeps its own
// ones valid, so that these need not ask whether they are.

const maxTurns = 1000000000000

// placeOf is the number of the pair for a key, -1 when there is none. Keys
// stand in tables as Key makes them, so that two are Same just when they are
// equal.
func placeOf(t Table, k Value) int {
	key := keyOf(k)
	if key.Code != 0 {
		return -1
	}
	for i := range t.Pairs {
		if t.Pairs[i].Key == key.Value {
			return i
		}
	}
	return -1
}

func get(t Table, k Value) Value {
	if at := placeOf(t, k); at >= 0 {
		return t.Pairs[at].Val
	}
	return Value{}
}

// putAt is a table with a value at what Key has made of a key, whose place is
// known. It writes into the pairs themselves: a table has its own.
func putAt(t Table, at int, key, v Value) Table {
	switch {
	case at >= 0 && v.Kind == KNil:
		t.Pairs = slices.Delete(t.Pairs, at, at+1)
	case at >= 0:
		t.Pairs[at].Val = v
	case v.Kind != KNil && len(t.Pairs) < MaxPairs && t.Turns < maxTurns:
		t.Turns++
		t.Pairs = append(t.Pairs, Pair{Key: key, Val: v, Turn: t.Turns})
	}
	return t
}

func after(t Table, turn int) Found {
	for _, p := range t.Pairs {
		if p.Turn > turn {
			return Found{Found: true, Pair: p}
		}
	}
	return Found{}
}

func length(t Table) int {
	there := make([]bool, len(t.Pairs)+2)
	for _, p := range t.Pairs {
		if p.Key.Kind == KInt && 1 <= p.Key.Num && p.Key.Num <= int64(len(t.Pairs)) {
			there[p.Key.Num] = true
		}
	}
	n := 0
	for there[n+1] {
		n++
	}
	return n
}

// What the fields of instructions are.

// role says what a field of an instruction is for.
type role int

const (
	notUsed role = iota
	isLine
	isAnyLine
	isConst
	isUp
	isProto
	isUnary
	isBinary
	isElement
	isKeep
	isTryKeep
	isTarget
	readsValue
	readsList
	holdsValue
	holdsBox
	holdsList
	holdsTwo
	holdsThree
	getsNothing
	getsValue
	getsBox
	getsList
	beginsEach
)

// form is the roles of the fields of an instruction.
type form struct{ a, b, c, d role }

var forms = [ILast + 1]form{
	ILine:     {a: isLine},
	IAt:       {a: isAnyLine},
	ITick:     {},
	IConst:    {a: getsValue, b: isConst},
	IMove:     {a: getsValue, b: readsValue},
	IBox:      {a: getsBox, b: readsValue},
	IGet:      {a: getsValue, b: holdsBox},
	IPut:      {a: holdsBox, b: readsValue},
	IUpGet:    {a: getsValue, b: isUp},
	IUpPut:    {a: isUp, b: readsValue},
	IFn:       {a: getsValue, b: isProto},
	ITable:    {a: getsValue},
	IRaw:      {a: holdsValue, b: readsValue, c: readsValue},
	IRawAll:   {a: holdsValue, b: readsValue, c: readsList},
	IIndex:    {a: getsValue, b: readsValue, c: readsValue},
	ISet:      {a: readsValue, b: readsValue, c: readsValue},
	IUnary:    {a: getsValue, b: isUnary, c: readsValue},
	IBinary:   {a: getsValue, b: isBinary, c: readsValue, d: readsValue},
	IJump:     {a: isTarget},
	IIf:       {a: readsValue, b: isTarget},
	IUnless:   {a: readsValue, b: isTarget},
	IList:     {a: getsList},
	IAdd:      {a: holdsList, b: readsValue},
	IJoin:     {a: holdsList, b: readsList},
	IFirst:    {a: getsValue, b: readsList},
	IPick:     {a: getsValue, b: holdsList, c: isElement},
	ICopy:     {a: getsList, b: holdsList},
	ICall:     {a: getsList, b: readsValue, c: readsList},
	IReturn:   {a: readsList},
	IThrow:    {a: readsValue},
	ITry:      {a: isTarget, b: isTryKeep},
	IEndTry:   {},
	IScope:    {a: isKeep},
	IKeep:     {a: isKeep},
	IDefer:    {a: readsValue, b: readsList},
	ILeave:    {},
	IFor:      {a: holdsThree},
	IForTest:  {a: holdsThree, b: isTarget},
	IForNext:  {a: holdsThree, b: isTarget},
	IEach:     {a: beginsEach},
	IEachNext: {a: holdsTwo, b: isTarget, c: getsList},
	IDrop:     {a: getsNothing},
}

// field is a field of an instruction together with what its role asks of it.
type field interface {
	// fits tells whether there is what the field names, with that many registers.
	fits(regs int) bool
}

// unused is a field that an instruction has no use for.
type unused int

// number is a field that names no register.
type number struct{ x, low, high int }

// target is the number of an instruction, out of a count of them.
type target struct{ to, count int }

// operand is a register that is read, and perhaps taken.
type operand struct{ x, want int }

// places are registers side by side that are read and stay.
type places struct{ first, count, want int }

// result is the register in which something is put.
type result struct{ x, gets int }

// opening is the first of the two registers with which something is begun to be gone through.
type opening struct{ first int }

func (u unused) fits(int) bool { return u == 0 }

func (n number) fits(int) bool { return within(n.x, n.low, n.high) }

func (t target) fits(int) bool { return within(t.to, 0, t.count-1) }

func (o operand) fits(regs int) bool { return o.register() < regs }

func (p places) fits(regs int) bool { return within(p.first, 0, regs-p.count) }

func (r result) fits(regs int) bool { return within(r.x, 0, regs-1) }

func (o opening) fits(regs int) bool { return within(o.first, 0, regs-2) }

func (o operand) taken() bool { return o.x < 0 }

func (o operand) register() int {
	if o.taken() {
		return -1 - o.x
	}
	return o.x
}

func fieldOf(c Code, p Proto, r role, x int) field {
	switch r {
	case notUsed:
		return unused(x)
	case readsValue:
		return operand{x, TValue}
	case readsList:
		return operand{x, TList}
	case holdsValue:
		return places{x, 1, TValue}
	case holdsBox:
		return places{x, 1, TBox}
	case holdsList:
		return places{x, 1, TList}
	case holdsTwo:
		return places{x, 2, TValue}
	case holdsThree:
		return places{x, 3, TValue}
	case getsNothing:
		return result{x, TNone}
	case getsValue:
		return result{x, TValue}
	case getsBox:
		return result{x, TBox}
	case getsList:
		return result{x, TList}
	case beginsEach:
		return opening{x}
	case isTarget:
		return target{x, len(p.Ins)}
	}
	return numberOf(c, p, r, x)
}

func numberOf(c Code, p Proto, r role, x int) number {
	switch r {
	case isLine:
		return number{x, 1, MaxLine}
	case isAnyLine:
		return number{x, 0, MaxLine}
	case isConst:
		return number{x, 0, len(p.Consts) - 1}
	case isUp:
		return number{x, 0, len(p.Ups) - 1}
	case isProto:
		return number{x, 0, len(c.Protos) - 1}
	case isUnary:
		return number{x, OpNeg, OpLen}
	case isBinary:
		return number{x, OpAdd, OpGe}
	case isElement:
		return number{x, 0, MaxRegs}
	case isTryKeep:
		return number{x, 0, p.Regs - 2}
	}
	return number{x, 0, p.Regs} // a keep
}

// fieldsOf is the fields of an instruction whose Op there is, from A to D.
func fieldsOf(c Code, p Proto, ins Ins) [4]field {
	f := forms[ins.Op]
	return [4]field{
		fieldOf(c, p, f.a, ins.A),
		fieldOf(c, p, f.b, ins.B),
		fieldOf(c, p, f.c, ins.C),
		fieldOf(c, p, f.d, ins.D),
	}
}

// What shape codes have.

func checkShape(c Code) Fault {
	if !sizesFit(c) {
		return Fault{Code: 1}
	}
	checks := []func(c Code, p int) (at int, ok bool){checkHead, checkConsts, checkNamed, checkInstructions}
	for i, check := range checks {
		for p := range c.Protos {
			if at, ok := check(c, p); !ok {
				return Fault{Code: 2 + i, Proto: p, At: at}
			}
		}
	}
	return checkMaking(c)
}

func sizesFit(c Code) bool {
	count := 0
	for _, p := range c.Protos {
		count += len(p.Ins)
	}
	return within(len(c.Protos), 1, MaxProtos) && count <= MaxIns
}

func checkHead(c Code, p int) (int, bool) {
	proto := c.Protos[p]
	params := proto.Regs
	if proto.Rest {
		params--
	}
	fits := len(proto.Name) <= MaxName && within(proto.Line, 0, MaxLine) &&
		within(proto.Regs, 0, MaxRegs) && within(proto.Params, 0, params) &&
		len(proto.Ups) <= MaxRegs && len(proto.Consts) <= MaxConsts
	bare := proto.Params == 0 && len(proto.Ups) == 0
	return 0, fits && (p > 0 || bare)
}

func checkConsts(c Code, p int) (int, bool) {
	for i, v := range c.Protos[p].Consts {
		if !constFits(v) {
			return i, false
		}
	}
	return 0, true
}

func constFits(v Value) bool {
	switch v.Kind {
	case KTable, KFn, KTask:
		return false
	case KFlt:
		return valid(v) && !math.IsNaN(v.Flt)
	}
	return valid(v) && !math.Signbit(v.Flt)
}

func checkNamed(c Code, p int) (int, bool) {
	proto := c.Protos[p]
	for i, n := range proto.Named {
		fits := within(len(n.Name), 1, MaxName) && within(n.Reg, 0, proto.Regs-1) &&
			0 <= n.From && n.From <= n.To && n.To <= len(proto.Ins)
		if !fits || i == MaxConsts {
			return i, false
		}
	}
	return 0, true
}

func checkInstructions(c Code, p int) (int, bool) {
	proto := c.Protos[p]
	for i, ins := range proto.Ins {
		if !instructionFits(c, proto, ins) {
			return i, false
		}
	}
	last := len(proto.Ins) - 1
	if last < 0 {
		return 0, false
	}
	return last, !hasNext(proto.Ins[last])
}

func instructionFits(c Code, p Proto, ins Ins) bool {
	if !within(ins.Op, 1, ILast) {
		return false
	}
	for _, f := range fieldsOf(c, p, ins) {
		if !f.fits(p.Regs) {
			return false
		}
	}
	return true
}

// hasNext tells whether the next instruction may be done behind this one.
func hasNext(ins Ins) bool {
	return ins.Op != IJump && ins.Op != IReturn && ins.Op != IThrow
}

// checkMaking asks that each proto but the text's is made by one IFn, in a proto ahead of it.
func checkMaking(c Code) Fault {
	made := make([]bool, len(c.Protos))
	for p, proto := range c.Protos {
		for i, ins := range proto.Ins {
			if ins.Op != IFn {
				continue
			}
			if ins.B <= p || made[ins.B] || !upsFit(proto, c.Protos[ins.B].Ups) {
				return Fault{Code: 6, Proto: p, At: i}
			}
			made[ins.B] = true
		}
	}
	made[0] = true
	if p := slices.Index(made, false); p >= 0 {
		return Fault{Code: 7, Proto: p}
	}
	return Fault{}
}

func upsFit(maker Proto, ups []Up) bool {
	for _, u := range ups {
		count := len(maker.Ups)
		if u.Local {
			count = maker.Regs
		}
		if !within(u.Index, 0, count-1) {
			return false
		}
	}
	return true
}

// What is known ahead of instructions.

// verifier goes through the instructions of a proto.
type verifier struct {
	code   Code
	proto  Proto
	states []State
	set    []bool // those that were reached and not looked at yet
	least  int    // none below this one is in the set
}

// verify answers the States of a proto, and the first fault in it.
func verify(c Code, p int) ([]State, Fault) {
	proto := c.Protos[p]
	v := &verifier{code: c, proto: proto, states: make([]State, len(proto.Ins)), set: make([]bool, len(proto.Ins))}
	v.reach(0, State{Types: firstTypes(proto)})
	for at := v.next(); at >= 0; at = v.next() {
		if f := v.step(at); f.Code != 0 {
			f.Proto = p
			return nil, f
		}
	}
	if at := leastOnCircle(v.silentSteps()); at >= 0 {
		return nil, Fault{Code: 14, Proto: p, At: at}
	}
	return v.states, Fault{}
}

func firstTypes(p Proto) []int {
	types := make([]int, p.Regs)
	for r := range p.Params {
		types[r] = TValue
	}
	if p.Rest {
		types[p.Params] = TList
	}
	return types
}

// next takes the least number out of the set, -1 when there is none.
func (v *verifier) next() int {
	for ; v.least < len(v.set); v.least++ {
		if v.set[v.least] {
			v.set[v.least] = false
			return v.least
		}
	}
	return -1
}

// reach tells an instruction that s may stand ahead of it, and whether that agrees with what it knew.
func (v *verifier) reach(at int, s State) bool {
	old := v.states[at]
	if old.Reached {
		return slices.Equal(old.Types, s.Types) && slices.Equal(old.Guards, s.Guards)
	}
	s.Reached = true
	v.states[at] = s
	v.set[at] = true
	v.least = min(v.least, at)
	return true
}

func (v *verifier) step(at int) Fault {
	ins, ahead := v.proto.Ins[at], v.states[at]
	fields := fieldsOf(v.code, v.proto, ins)
	r := reading{types: slices.Clone(ahead.Types)}
	switch {
	case !r.all(fields) || ins.Op == IFn && !upsBoxed(ahead.Types, v.code.Protos[ins.B].Ups):
		return Fault{Code: 10, At: at}
	case !guardsFit(ins, ahead.Guards):
		return Fault{Code: 11, At: at}
	}
	r.put(fields)
	behind := State{Types: r.types, Guards: guardsBehind(ins, ahead.Guards)}
	if !keptStay(keptBelow(ahead.Guards), r.taken, ahead.Types, behind.Types) {
		return Fault{Code: 12, At: at}
	}
	return v.follow(at, ahead, behind)
}

// follow hands the state behind an instruction to its followers.
func (v *verifier) follow(at int, ahead, behind State) Fault {
	ins := v.proto.Ins[at]
	if hasNext(ins) && !v.reach(at+1, behind) {
		return Fault{Code: 13, At: at + 1}
	}
	to := goesOnAt(ins)
	if to < 0 {
		return Fault{}
	}
	if !v.reach(to, stateThere(ins, ahead, behind)) {
		return Fault{Code: 13, At: to}
	}
	return Fault{}
}

// goesOnAt is the instruction that another one names to go on at, -1 when it names none.
func goesOnAt(ins Ins) int {
	f := forms[ins.Op]
	switch {
	case f.a == isTarget:
		return ins.A
	case f.b == isTarget:
		return ins.B
	}
	return -1
}

// stateThere is the state ahead of the instruction that ins goes on at.
func stateThere(ins Ins, ahead, behind State) State {
	switch ins.Op {
	case IEachNext:
		types := slices.Clone(behind.Types)
		types[ins.C] = ahead.Types[ins.C]
		return State{Types: types, Guards: behind.Guards}
	case ITry:
		types := slices.Clone(ahead.Types)
		clear(types[ins.B:])
		types[ins.B], types[ins.B+1] = TValue, TValue
		return State{Types: types, Guards: ahead.Guards}
	}
	return behind
}

// reading is what is known while the fields of an instruction are read.
type reading struct {
	types []int // with nothing in what was taken
	read  []int // the registers that were read as places
	taken []int
}

// all reads the fields, and tells whether each register holds what it has to.
func (r *reading) all(fields [4]field) bool {
	for _, f := range fields {
		if !r.one(f) {
			return false
		}
	}
	return true
}

func (r *reading) one(f field) bool {
	switch f := f.(type) {
	case operand:
		return r.operand(f)
	case places:
		return r.places(f)
	case opening:
		r.taken = append(r.taken, f.first)
		return r.types[f.first] == TValue && r.types[f.first+1] == TNone
	}
	return true
}

func (r *reading) operand(o operand) bool {
	reg := o.register()
	if r.types[reg] != o.want || o.taken() && slices.Contains(r.read, reg) {
		return false
	}
	if o.taken() {
		r.types[reg] = TNone
		r.taken = append(r.taken, reg)
	}
	return true
}

func (r *reading) places(p places) bool {
	for reg := p.first; reg < p.first+p.count; reg++ {
		if r.types[reg] != p.want {
			return false
		}
		r.read = append(r.read, reg)
	}
	return true
}

func upsBoxed(types []int, ups []Up) bool {
	for _, u := range ups {
		if u.Local && types[u.Index] != TBox {
			return false
		}
	}
	return true
}

// put puts in what an instruction puts in, behind its reading.
func (r *reading) put(fields [4]field) {
	for _, f := range fields {
		switch f := f.(type) {
		case result:
			r.types[f.x] = f.gets
		case opening:
			r.types[f.first], r.types[f.first+1] = TValue, TValue
		}
	}
}

// keptBelow is the number of the registers that guards that catch have kept: the greatest of their keeps.
func keptBelow(guards []Guard) int {
	keep := 0
	for _, g := range guards {
		if g.Try {
			keep = max(keep, g.Keep)
		}
	}
	return keep
}

func guardsFit(ins Ins, guards []Guard) bool {
	keep, more := keptBelow(guards), len(guards) < MaxGuards
	catches := len(guards) > 0 && guards[len(guards)-1].Try
	defers := len(guards) > 0 && !catches
	switch ins.Op {
	case ITry:
		return more && ins.B >= keep
	case IScope:
		return more && ins.A >= keep
	case IEndTry:
		return catches
	case IKeep:
		return defers && ins.A >= keep
	case IDefer, ILeave:
		return defers
	}
	return true
}

// guardsBehind is a list of its own wherever it is another one: states share their lists.
func guardsBehind(ins Ins, guards []Guard) []Guard {
	last := len(guards) - 1
	switch ins.Op {
	case ITry:
		return append(slices.Clip(guards), Guard{Try: true, Keep: ins.B, Handler: ins.A})
	case IScope:
		return append(slices.Clip(guards), Guard{Keep: ins.A})
	case IEndTry, ILeave:
		return guards[:last]
	case IKeep:
		guards = slices.Clone(guards)
		guards[last].Keep = ins.A
	}
	return guards
}

// keptStay tells whether the registers below keep are not taken and hold behind what they held ahead.
func keptStay(keep int, taken, ahead, behind []int) bool {
	for _, reg := range taken {
		if reg < keep {
			return false
		}
	}
	return slices.Equal(ahead[:keep], behind[:keep])
}

// silentSteps is for each instruction those to which a silent step goes from it.
func (v *verifier) silentSteps() [][]int {
	steps := make([][]int, len(v.proto.Ins))
	for at, ins := range v.proto.Ins {
		if !v.states[at].Reached || ticks(ins) {
			continue
		}
		if hasNext(ins) && ins.Op != IEachNext {
			steps[at] = append(steps[at], at+1)
		}
		if to := goesOnAt(ins); to >= 0 {
			steps[at] = append(steps[at], to)
		}
	}
	return steps
}

// ticks tells whether an instruction has a tick whichever way it goes on.
func ticks(ins Ins) bool {
	switch ins.Op {
	case ILine, ITick, ICall:
		return true
	case IBinary:
		return ins.B == OpJoin
	}
	return false
}

// circles looks for those from which steps lead back to them, by Tarjan's
// way: it is done in one walk, however the steps lead.
type circles struct {
	steps [][]int
	count int
	order []int  // when each one was come to, from 1
	path  []int  // those that were come to and whose circles are not known yet
	open  []bool // whether each one is in path
	least int
}

// leastOnCircle is the least one from which steps lead back to it, -1 when there is none.
func leastOnCircle(steps [][]int) int {
	c := &circles{steps: steps, order: make([]int, len(steps)), open: make([]bool, len(steps)), least: len(steps)}
	for at := range steps {
		if c.order[at] == 0 {
			c.visit(at)
		}
	}
	if c.least == len(steps) {
		return -1
	}
	return c.least
}

// visit answers the earliest order that can be come to from at, among those in path.
func (c *circles) visit(at int) int {
	c.count++
	c.order[at], c.open[at] = c.count, true
	start, low := len(c.path), c.count
	c.path = append(c.path, at)
	for _, to := range c.steps[at] {
		switch {
		case c.order[to] == 0:
			low = min(low, c.visit(to))
		case c.open[to]:
			low = min(low, c.order[to])
		}
	}
	if low == c.order[at] {
		c.close(start)
	}
	return low
}

// close takes those from start on out of the path: steps lead from each of them to all of them.
func (c *circles) close(start int) {
	group := c.path[start:]
	c.path = c.path[:start]
	if len(group) > 1 || slices.Contains(c.steps[group[0]], group[0]) {
		c.least = min(c.least, slices.Min(group))
	}
	for _, at := range group {
		c.open[at] = false
	}
}
