package tests

import (
	"fmt"
	"reflect"
	"slices"
	"strings"
	"testing"

	"loop.example/loom/impl"
)

// What Stand and Moves answer at every argument.

func TestStandByNumber(t *testing.T) {
	c, in := verified(t, everyTick), roomy("x")
	moves := impl.Moves(c, in)
	if m := impl.Stand(c, in, 0, 0); !alike(m, impl.Begin(c, in, 0)) {
		t.Errorf("behind no move: %+v", m)
	}
	for _, n := range []int{-1, -2, -moves, tiny} {
		if m := impl.Stand(c, in, 0, n); !alike(m, impl.Machine{}) {
			t.Errorf("%d: got %+v", n, m)
		}
	}
	last := impl.Stand(c, in, 0, moves)
	if !last.Over || last.Moves != moves || last.Rep.Code != 0 || len(last.Tasks)+len(last.Slots)+len(last.Caches)+last.Births+last.Vers+last.Due != 0 {
		t.Errorf("behind the last move: %+v", last)
	}
	for _, n := range []int{moves + 1, 2 * moves, huge} {
		if m := impl.Stand(c, in, 0, n); !alike(m, last) {
			t.Errorf("%d: got %+v", n, m)
		}
	}
	for n := range moves {
		m := impl.Stand(c, in, 0, n)
		if m.Over || m.Moves != n || m.Rep.Code != 0 || len(m.Rep.Recs) > len(last.Rep.Recs) || !slices.Equal(m.Rep.Recs, last.Rep.Recs[:len(m.Rep.Recs)]) {
			t.Errorf("%d: got %+v", n, m)
		}
	}
}

func TestStandByPace(t *testing.T) {
	c, in := verified(t, everyTick), roomy("x")
	want := impl.Stand(c, in, 0, huge).Rep
	for _, pace := range []int{0, 1, 2, 500, 999, 1000} {
		if m := impl.Stand(c, in, pace, 0); !alike(m, impl.Begin(c, in, pace)) || m.Pace != pace {
			t.Errorf("pace %d: got %+v", pace, m)
		}
		if m := impl.Stand(c, in, pace, huge); m.Pace != pace || !m.Over || !alike(m.Rep, want) {
			t.Errorf("pace %d: got %+v", pace, m)
		}
	}
	for _, pace := range []int{-1, 1001, huge, tiny} {
		for _, n := range []int{-1, 0, 1, huge} {
			if m := impl.Stand(c, in, pace, n); !alike(m, impl.Machine{}) {
				t.Errorf("pace %d: got %+v", pace, m)
			}
		}
	}
}

func TestStandOfWhatIsNotRun(t *testing.T) {
	good, in := verified(t, everyTick), roomy("x")
	loose := asm(everyTick)
	loose.Protos[1].Ins[0].A = 77
	lost := asm(everyTick)
	lost.Protos = lost.Protos[:1]
	silent := asm("proto main regs 1\n jump 0")
	for name, c := range map[string]impl.Code{"the zero value": {}, "a register that there is not": loose, "a proto that there is not": lost, "a loop without a tick": silent} {
		if impl.CheckCode(c).Code == 0 {
			t.Errorf("%s is verified", name)
		}
		for _, n := range []int{-1, 0, 1, 100} {
			if m := impl.Stand(c, in, 0, n); !alike(m, impl.Machine{}) {
				t.Errorf("%s: got %+v", name, m)
			}
		}
		if n := impl.Moves(c, in); n != 0 {
			t.Errorf("%s: %d moves", name, n)
		}
	}
	for i := range 8 {
		bad := roomy("x")
		switch i {
		case 0:
			bad.Ticks = -1
		case 1:
			bad.Ticks = impl.MaxTicks + 1
		case 2:
			bad.Depth = 0
		case 3:
			bad.Depth = impl.MaxDepth + 1
		case 4:
			bad.Cells = -1
		case 5:
			bad.Cells = impl.MaxCells + 1
		case 6:
			bad.Args = make([]string, impl.MaxInput+1)
		case 7:
			bad.Lines = []string{long(impl.MaxStr + 1)}
		}
		for _, n := range []int{-1, 0, 1, 100} {
			if m := impl.Stand(good, bad, 0, n); !alike(m, impl.Machine{}) {
				t.Errorf("%d: got %+v", i, m)
			}
		}
		if n := impl.Moves(good, bad); n != 0 {
			t.Errorf("%d: %d moves", i, n)
		}
	}
}

// A text with a task that waits, one that is done, and one that is running inside of a last word, for which the text waits in a collect.
const wholeText = `
	proto main line 1 regs 6
	  line 2
	  fn 0 f; ask 1 @task 0; ask 2 @resume 1; ask 2 @task 0!; ask 0 @giveup 2; drop 2
	  const 0 7; box 0 0!; table 2; const 3 "last"; fn 4 g; raw 2 3! 4!; table 3; ask 3 @setkind 3! 2
	  drop 3; scope 5; const 3 @print; list 4; add 4 2; at 3; defer 3! 4!
	  at 4; const 3 @collect; list 4; call 3 3! 4!; return 3!
	proto f line 10 params 1 regs 4
	  try >h 1; at 11; ask 1 @yield; throw 1
	h:
	  throw 1
	proto g line 20 params 1 regs 5 ups l0
	  fn 1 h; ask 1 @task 1!; ask 1 @resume 1 0; drop 1; list 1; return 1!
	proto h line 30 params 1 regs 4
	  const 2 "name"; index 1 0 2!; throw 1`

// wholeMoves is where everything of wholeText stands as wholeMachine tells it.
const wholeMoves = 65

// wholeMachine is the machine of wholeText when its things, in the order of their making, are in these slots.
func wholeMachine(slots [6]int) impl.Machine {
	value := func(v impl.Value) impl.Reg { return impl.Reg{Type: impl.TValue, Value: v} }
	task := func(n int) impl.Reg { return value(impl.Value{Kind: impl.KTask, Ref: n}) }
	f, box, kind, g, told, h := slots[0], slots[1], slots[2], slots[3], slots[4], slots[5]
	table := func(at int) impl.Value { return impl.Value{Kind: impl.KTable, Ref: at} }
	fn := func(at int) impl.Value { return impl.Value{Kind: impl.KFn, Ref: at} }
	m := impl.Machine{
		Due: 6, Births: 6, Vers: 3, Slots: make([]impl.Slot, 6),
		Caches: []impl.Cache{{}}, Misses: 1,
		Tasks: []impl.Task{
			{State: impl.RBusy, Waiter: -1, Frames: []impl.Frame{
				{Kind: impl.FCode, Self: -1, At: 46, Line: 4, Limit: -1,
					Regs:   []impl.Reg{{Type: impl.TBox, Box: box}, task(1), value(table(kind)), {}, {}, {}},
					Fences: []impl.Fence{{Keep: 5, Defers: []impl.Kept{{Line: 3, Vals: []impl.Value{{Kind: impl.KBuiltin}, table(kind)}}}}}},
				{Kind: impl.FCollect, Round: true, Step: 1, Vals: []impl.Value{table(told), fn(g)}},
				{Kind: impl.FCode, Proto: 2, Self: g, At: 10, Limit: -1, Regs: []impl.Reg{value(table(told)), task(3), {}, {}, {}}},
			}},
			{State: impl.RWaiting, Waiter: -1, Frames: []impl.Frame{
				{Kind: impl.FCode, Proto: 1, Self: f, At: 4, Line: 11, Limit: -1, Regs: []impl.Reg{value(impl.Value{}), {}, {}, {}},
					Fences: []impl.Fence{{Try: true, Keep: 1, Handler: 7}}},
			}},
			{State: impl.RDone, Waiter: -1},
			{State: impl.RRunning, Waiter: 0, Frames: []impl.Frame{
				{Kind: impl.FCode, Proto: 3, Self: h, At: 2, Limit: -1, Regs: []impl.Reg{value(table(told)), value(impl.Value{}), {}, {}}},
			}},
		},
		Cur: 3, Since: 10, Moves: wholeMoves,
		Rep: impl.Report{Ticks: 13, Made: 10, Recs: []impl.Rec{
			{Kind: impl.RecLine, Line: 2},
			{Kind: impl.RecTurn, Task: 1, Text: "resume"},
			{Kind: impl.RecCall, Task: 1, Fn: 1, Line: 10, Text: "f"},
			{Kind: impl.RecTurn, Text: "yield"},
			{Kind: impl.RecLast},
			{Kind: impl.RecCall, Fn: 2, Line: 20, Text: "g"},
			{Kind: impl.RecTurn, Task: 3, Text: "resume"},
			{Kind: impl.RecCall, Task: 3, Fn: 3, Line: 30, Text: "h"},
		}},
	}
	m.Slots[f] = impl.Slot{Kind: impl.SFn, Born: 1, Proto: 1}
	m.Slots[box] = impl.Slot{Kind: impl.SBox, Born: 2, Value: number(7)}
	m.Slots[kind] = impl.Slot{Kind: impl.STable, Born: 3, Ver: 2, Of: -1, Table: impl.Table{Pairs: []impl.Pair{{Key: text("last"), Val: fn(g), Turn: 1}}, Turns: 1}}
	m.Slots[g] = impl.Slot{Kind: impl.SFn, Born: 4, Proto: 2, Ups: []int{box}}
	m.Slots[told] = impl.Slot{Kind: impl.STable, Born: 5, Ver: 3, Of: kind}
	m.Slots[h] = impl.Slot{Kind: impl.SFn, Born: 6, Proto: 3}
	return m
}

func TestAWholeMachine(t *testing.T) {
	c, in := verified(t, wholeText), roomy()
	got, want := impl.Stand(c, in, 0, wholeMoves), wholeMachine([6]int{0, 1, 2, 3, 4, 5})
	if !alike(got, want) {
		t.Errorf("got\n%s\nwant\n%s", spread(got), spread(want))
	}
	wantPaces(t, "whole", c, in)
}

// spread tells the fields of a machine, one a line.
func spread(m impl.Machine) string {
	var out strings.Builder
	v := reflect.ValueOf(m)
	for i := range v.NumField() {
		fmt.Fprintf(&out, "%s: %+v\n", v.Type().Field(i).Name, v.Field(i).Interface())
	}
	return out.String()
}

// Caches.

// fieldRead is a text that reads the field "a" of the table in register 0 at one place n times, and does more behind each reading.
func fieldRead(n int, more string) string {
	return fmt.Sprintf(`
		proto main regs 9
		  table 0; const 1 5; const 2 "a"; raw 0 2! 1!
		  const 1 1; const 2 %d; const 3 1; for 1
		test:
		  fortest 1 >end; tick
		  const 4 "a"
		  index 4 0 4!
		  drop 4
		  %s
		  fornext 1 >test
		end:
		  list 4; return 4!`, n, more)
}

func TestCaches(t *testing.T) {
	for _, x := range []struct {
		name, source string
		hits, misses int
	}{
		{"read once", fieldRead(1, ""), 0, 1},
		{"read a hundred times", fieldRead(100, ""), 99, 1},
		{"a value that changes", fieldRead(10, `const 4 "a"; set 0 4! 1`), 9, 1},
		{"a key that comes", fieldRead(10, `set 0 1 1`), 0, 10},
		{"a key that comes and goes", fieldRead(10, `const 4 "b"; const 5 nil; raw 0 4 4; raw 0 4! 5!`), 0, 10},
		{"a key that is not there goes", fieldRead(10, `const 4 "b"; const 5 nil; raw 0 4! 5!`), 9, 1},
		{"once, half way", fieldRead(10, `const 4 5; binary 4 eq 1 4!; unless 4! >no; raw 0 1 1`+"\n no:\n"), 8, 2},
		{"its own key goes and comes", fieldRead(10, `const 4 "a"; const 5 nil; raw 0 4 5!; raw 0 4 4!`), 0, 10},
		{"its own key goes", fieldRead(10, `const 4 "a"; const 5 nil; raw 0 4! 5!`), 0, 10},
		{"another table, made in the same way", fieldRead(10, `table 0; const 4 "a"; raw 0 4 4!`), 0, 10},
		{"by a builtin", fieldRead(10, `const 4 "b"; ask 5 @rawset 0 4! 1; drop 5`), 8, 2},
		{"by a list", fieldRead(10, `list 4; add 4 1; rawall 0 1 4!`), 0, 10},
		{"a number that is no table", "proto main regs 9\n const 0 5; const 1 \"a\"; index 1 0! 1!; list 0; return 0!", 0, 1},
		{"no string: no cache", "proto main regs 9\n table 0; const 1 5; index 1 0! 1!; list 0; return 0!", 0, 0},
		{"the ticks run out in a handler", `
			proto main regs 9
			  table 0; table 1; const 2 "index"; const 3 @read; raw 1 2! 3!; ask 0 @setkind 0! 1!
			test:
			  tick; const 1 "a"; index 1 0 1!; drop 1; jump >test`, 0, 2500},
	} {
		c := verified(t, x.source)
		m := impl.Stand(c, roomy(), 0, huge)
		if m.Hits != x.hits || m.Misses != x.misses {
			t.Errorf("%s: %d hits, %d misses", x.name, m.Hits, m.Misses)
		}
	}
}

// vers are the Vers of a machine behind each of the last instructions of a code, from number from on.
func vers(t *testing.T, source string, from int) []int {
	t.Helper()
	c := verified(t, source)
	var out []int
	for n := from; n <= impl.Moves(c, roomy())-3; n++ {
		m := impl.Stand(c, roomy(), 0, n)
		out = append(out, m.Vers)
		for _, s := range m.Slots {
			if s.Kind == impl.STable && (s.Ver < 1 || s.Ver > m.Vers) || s.Kind != impl.STable && s.Ver != 0 {
				t.Errorf("move %d: %+v", n, s)
			}
		}
	}
	return out
}

func TestVers(t *testing.T) {
	got := vers(t, `
		proto main regs 6
		  table 0; const 1 1; const 2 nil
		  raw 0 1 1; raw 0 1 1; raw 0 1 2; raw 0 1 2; set 0 1 1; set 0 1 1; set 0 1 2
		  list 3; add 3 1; add 3 2; add 3 1; rawall 0 1 3
		  table 4; box 5 1
		  list 5; return 5!`, 0)
	want := []int{0, 1, 1, 1, 2, 2, 3, 3, 4, 4, 5, 5, 5, 5, 5, 7, 8, 8, 8}
	if !slices.Equal(got, want) {
		t.Errorf("got %v, want %v", got, want)
	}
	// Two pairs go in one collect: one Ver for the table; an error's table: one.
	c := verified(t, `
		proto main regs 7
		  table 0; table 1; const 2 "weak"; const 3 "v"; raw 1 2! 3!; ask 0 @setkind 0! 1!
		  table 1; const 2 1; raw 0 2! 1!; table 1; const 2 2; raw 0 2! 1!; const 2 3; raw 0 2 2!
		  ask 1 @collect; index 1 1 1; list 1; return 1!`)
	m := impl.Stand(c, roomy(), 0, impl.Moves(c, roomy())-1)
	if m.Vers != 3+2+3+1+1 || m.Slots[0].Ver != 9 || m.Slots[1].Ver != 3 || m.Slots[4].Ver != 10 || len(m.Slots[0].Table.Pairs) != 1 {
		t.Errorf("%d %+v", m.Vers, m.Slots)
	}
}
