package impl

import (
	"reflect"
	"testing"
)

// Most of what chapter 3 lists stands in no machine that has done nothing
// yet, so that the face and the frames are asked from inside of the package.

func TestRegistersOfACall(t *testing.T) {
	a, b, c := textValue("a"), textValue("b"), table3
	value := func(v Value) register { return register{kind: TValue, value: v} }
	list := func(vs ...Value) register { return register{kind: TList, list: vs} }
	nothing := register{}
	for _, x := range []struct {
		params int
		rest   bool
		regs   int
		args   []Value
		want   []register
	}{
		{0, false, 0, nil, []register{}},
		{0, false, 1, []Value{a, b}, []register{nothing}},
		{0, true, 1, nil, []register{list()}},
		{0, true, 2, []Value{a, b}, []register{list(a, b), nothing}},
		{2, false, 3, nil, []register{value(Value{}), value(Value{}), nothing}},
		{2, false, 3, []Value{a}, []register{value(a), value(Value{}), nothing}},
		{2, false, 2, []Value{a, b, c}, []register{value(a), value(b)}},
		{2, true, 3, nil, []register{value(Value{}), value(Value{}), list()}},
		{2, true, 4, []Value{a}, []register{value(a), value(Value{}), list(), nothing}},
		{2, true, 3, []Value{a, b}, []register{value(a), value(b), list()}},
		{1, true, 3, []Value{a, b, c}, []register{value(a), list(b, c), nothing}},
	} {
		got := filled(Proto{Params: x.params, Rest: x.rest, Regs: x.regs}, x.args)
		if !reflect.DeepEqual(got, x.want) {
			t.Errorf("%d params, rest %v, %v: got %v", x.params, x.rest, x.args, got)
		}
	}
}

func TestRestIsAListOfItsOwn(t *testing.T) {
	args := []Value{intValue(1), intValue(2)}
	regs := filled(Proto{Rest: true, Regs: 1}, args)
	regs[0].list[0] = no
	if args[0] != intValue(1) {
		t.Error(args)
	}
}

func TestOpenCall(t *testing.T) {
	c := Code{Protos: []Proto{{}, {Params: 1, Regs: 2}}}
	self := &slot{kind: SFn, proto: 1}
	want := Frame{Kind: FCode, Proto: 1, Self: 4, Regs: []Reg{{Type: TValue, Value: yes}, {}}, Limit: -1}
	if got := openCall(c, 1, self, []Value{yes}).face(placing{places: map[*slot]int{nil: -1, self: 4}}); !reflect.DeepEqual(got, want) {
		t.Errorf("got %+v, want %+v", got, want)
	}
}

// An error, a giving up and what each frame makes of them: rule 2 of 4.10.
func TestMeet(t *testing.T) {
	failing := Way{Kind: WayError, Vals: []Value{intValue(5)}, Trace: "main:3"}
	other := Way{Kind: WayError, Vals: []Value{table3}, Trace: "fn:0"}
	back := Way{Kind: WayReturn, Vals: []Value{yes, no}}
	gone := Way{Kind: WayGone}
	call := func(f callFrame) *callFrame {
		f.header, f.limit = header{FCode}, -1
		return &f
	}
	for _, x := range []struct {
		name string
		f    frame
		w    Way
		want meeting
		then frame
	}{
		{"an after, an error", &afterFrame{header{FAfter}, ThenNot}, failing, passed, &afterFrame{header{FAfter}, ThenNot}},
		{"an after, gone", &afterFrame{header{FAfter}, ThenNot}, gone, passed, &afterFrame{header{FAfter}, ThenNot}},
		{"a collect, an error", &collectFrame{header: header{FCollect}, step: 1, round: true}, failing, caught, &collectFrame{header: header{FCollect}, step: 1, round: true}},
		{"a collect, gone", &collectFrame{header: header{FCollect}, round: true}, gone, passed, &collectFrame{header: header{FCollect}, round: true}},
		{"a call at work, an error", call(callFrame{line: 7, at: 2}), failing, held, call(callFrame{line: 7, at: 2, leaving: true, saved: 7, way: failing})},
		{"a call at work, gone", call(callFrame{line: 7}), gone, held, call(callFrame{line: 7, leaving: true, saved: 7, way: gone})},
		{"one guard, an error", call(callFrame{line: 9, saved: 7, leaving: true, one: true}), failing, held, call(callFrame{line: 9, saved: 7, leaving: true, way: failing})},
		{"one guard, gone", call(callFrame{line: 9, saved: 7, leaving: true, one: true}), gone, held, call(callFrame{line: 9, saved: 7, leaving: true, way: gone})},
		{"a return, an error", call(callFrame{line: 9, saved: 7, leaving: true, way: back}), failing, held, call(callFrame{line: 9, saved: 7, leaving: true, way: failing})},
		{"a return, gone", call(callFrame{saved: 7, leaving: true, way: back}), gone, held, call(callFrame{saved: 7, leaving: true, way: gone})},
		{"an error, another one", call(callFrame{leaving: true, way: other}), failing, held, call(callFrame{leaving: true, way: failing})},
		{"gone, an error", call(callFrame{line: 9, saved: 7, leaving: true, way: gone}), failing, dropped, call(callFrame{line: 9, saved: 7, leaving: true, way: gone})},
	} {
		if got := x.f.meet(x.w); got != x.want {
			t.Errorf("%s: got %v, want %v", x.name, got, x.want)
		}
		if !reflect.DeepEqual(x.f, x.then) {
			t.Errorf("%s: got %+v, want %+v", x.name, x.f, x.then)
		}
	}
}

// full is a machine with something of every kind in it, and its face.
func full() (*machine, Machine) {
	kind := &slot{kind: STable, born: 1, ver: 3, table: Table{[]Pair{{textValue("last"), fn3, 1}}, 1}}
	box := &slot{kind: SBox, born: 3, value: intValue(8)}
	fn := &slot{kind: SFn, born: 4, proto: 2, ups: []*slot{box, box}}
	of := &slot{kind: STable, born: 2, ver: 2, of: kind, wants: true}
	call := &callFrame{
		header: header{FCode}, proto: 2, self: fn, at: 5, line: 12, saved: 11, leaving: true, one: true, limit: 3,
		regs: []register{{}, {kind: TValue, value: table3}, {kind: TBox, box: box}, {kind: TList, list: []Value{yes, no}}},
		fences: []Fence{
			{Try: true, Keep: 1, Handler: 9, Line: 4},
			{Keep: 2, Defers: []Kept{{3, []Value{printing, yes}}, {4, []Value{fn3}}}},
		},
		way: Way{WayError, []Value{no}, "fn:12 main:1"},
	}
	first := &callFrame{header: header{FCode}, limit: -1, at: 1}
	m := &machine{
		pace: 1, due: 2, read: 3, births: 4, vers: 5,
		slots: []*slot{nil, kind, of, fn, nil, box}, caches: []Cache{{3, 0}, {}}, hits: 6, misses: 7,
		tasks: []*task{
			{state: RBusy, waiter: -1, frames: []frame{first, &collectFrame{header{FCollect}, 1, true, []Value{table3, fn3}}}},
			{state: RNew, waiter: -1, fn: fn3},
			{state: RRunning, waiter: 0, giving: true, dropped: []Value{no, yes, textValue("fn:1")}, frames: []frame{call, &afterFrame{header{FAfter}, ThenTruth}}},
		},
		cur: 2, has: true, got: []Value{intValue(1), intValue(2)}, way: Way{WayReturn, []Value{yes}, ""},
		live: 8, since: 9, moves: 10, rep: Report{Recs: []Rec{{Kind: RecLine, Line: 1}}, Ticks: 11, Made: 12},
	}
	shown := Frame{
		Kind: FCode, Proto: 2, Self: 3, At: 5, Line: 12, Saved: 11, Leaving: true, One: true, Limit: 3,
		Regs: []Reg{{}, {Type: TValue, Value: table3}, {Type: TBox, Box: 5}, {Type: TList, List: []Value{yes, no}}},
		Fences: []Fence{
			{Try: true, Keep: 1, Handler: 9, Line: 4},
			{Keep: 2, Defers: []Kept{{3, []Value{printing, yes}}, {4, []Value{fn3}}}},
		},
		Way: Way{WayError, []Value{no}, "fn:12 main:1"},
	}
	return m, Machine{
		Pace: 1, Due: 2, Read: 3, Births: 4, Vers: 5,
		Slots: []Slot{
			{},
			{Kind: STable, Born: 1, Ver: 3, Of: -1, Table: Table{[]Pair{{textValue("last"), fn3, 1}}, 1}},
			{Kind: STable, Born: 2, Ver: 2, Of: 1, Wants: true},
			{Kind: SFn, Born: 4, Proto: 2, Ups: []int{5, 5}},
			{},
			{Kind: SBox, Born: 3, Value: intValue(8)},
		},
		Caches: []Cache{{3, 0}, {}}, Hits: 6, Misses: 7,
		Tasks: []Task{
			{State: RBusy, Waiter: -1, Frames: []Frame{{Kind: FCode, Self: -1, At: 1, Limit: -1}, {Kind: FCollect, Step: 1, Round: true, Vals: []Value{table3, fn3}}}},
			{State: RNew, Waiter: -1, Fn: fn3},
			{State: RRunning, Giving: true, Dropped: []Value{no, yes, textValue("fn:1")}, Frames: []Frame{shown, {Kind: FAfter, Then: ThenTruth}}},
		},
		Cur: 2, Has: true, Got: []Value{intValue(1), intValue(2)}, Way: Way{WayReturn, []Value{yes}, ""},
		Live: 8, Since: 9, Moves: 10, Rep: Report{Recs: []Rec{{Kind: RecLine, Line: 1}}, Ticks: 11, Made: 12},
	}
}

func TestFace(t *testing.T) {
	m, want := full()
	if got := m.face(); !reflect.DeepEqual(got, want) {
		t.Errorf("got %+v\nwant %+v", got, want)
	}
}

func TestFaceOfOneThatIsOver(t *testing.T) {
	m, whole := full()
	m.over = true
	m.rep.Vals = []string{"nil", "1"}
	want := Machine{Pace: 1, Hits: 6, Misses: 7, Over: true, Moves: 10, Rep: whole.Rep}
	want.Rep.Vals = []string{"nil", "1"}
	if got := m.face(); !reflect.DeepEqual(got, want) {
		t.Errorf("got %+v\nwant %+v", got, want)
	}
}

// zeroLists makes every element of every list in a value zero, from the inside.
func zeroLists(v reflect.Value) {
	switch v.Kind() {
	case reflect.Struct:
		for i := range v.NumField() {
			zeroLists(v.Field(i))
		}
	case reflect.Slice:
		for i := range v.Len() {
			zeroLists(v.Index(i))
			v.Index(i).SetZero()
		}
	}
}

func TestFaceHasMemoryOfItsOwn(t *testing.T) {
	m, want := full()
	got := m.face()
	zeroLists(reflect.ValueOf(&got).Elem())
	if again := m.face(); !reflect.DeepEqual(again, want) {
		t.Errorf("got %+v\nwant %+v", again, want)
	}
	m.over, m.rep.Vals, want.Rep.Vals = true, []string{"nil"}, []string{"nil"}
	got = m.face()
	zeroLists(reflect.ValueOf(&got).Elem())
	if again := m.face(); !reflect.DeepEqual(again.Rep, want.Rep) {
		t.Errorf("got %+v\nwant %+v", again.Rep, want.Rep)
	}
}
