package tests

import (
	"fmt"
	"reflect"
	"testing"

	"loop.example/loom/impl"
)

// The calls of chapter 5 at every argument.

// The running task is met first, then the text: its box, its kind, the fn of the last word; then the fn of the task that waits.
func TestAWholeCanon(t *testing.T) {
	c, in := verified(t, wholeText), roomy()
	want := wholeMachine([6]int{5, 2, 3, 4, 1, 0})
	want.Due = 0
	for pace := range 8 {
		got := impl.Canon(c, in, pace, wholeMoves)
		if !alike(got, want) {
			t.Errorf("pace %d: got\n%s\nwant\n%s", pace, spread(got), spread(want))
		}
		wantApart(t, got, c, in)
	}
}

// Names of slots are named anew wherever they stand: in keys, values, boxes, lists, kinds and what is kept.
func TestCanonNamesAnew(t *testing.T) {
	c := verified(t, `
		proto main regs 8
		  table 6; drop 6
		  table 0; table 1; raw 0 1 1; ask 1 @setkind 1! 0; box 1 1!; fn 2 f
		  scope 8; list 3; add 3 0; add 3 2; copy 4 3; defer 2 4!; drop 0; tick; list 5; return 5!
		proto f params 2 rest regs 3 ups l1
		  list 0; return 0!`)
	n := moveAt(c, roomy(), 0, len(c.Protos[0].Ins)-2)
	table := func(at int) impl.Value { return impl.Value{Kind: impl.KTable, Ref: at} }
	fn := impl.Value{Kind: impl.KFn, Ref: 2}
	pairs := []impl.Pair{{Key: table(1), Val: table(1), Turn: 1}}
	slots := []impl.Slot{
		{Kind: impl.SBox, Born: 4, Value: table(1)},
		{Kind: impl.STable, Born: 3, Ver: 3, Of: 3},
		{Kind: impl.SFn, Born: 5, Proto: 1, Ups: []int{0}},
		{Kind: impl.STable, Born: 2, Ver: 4, Of: -1, Table: impl.Table{Pairs: pairs, Turns: 1}},
	}
	regs := []impl.Reg{{}, {Type: impl.TBox}, {Type: impl.TValue, Value: fn}, {Type: impl.TList, List: []impl.Value{table(3), fn}}, {}, {}, {}, {}}
	fences := []impl.Fence{{Keep: 8, Defers: []impl.Kept{{Vals: []impl.Value{fn, table(3), fn}}}}}
	for _, pace := range paces() {
		m := impl.Canon(c, roomy(), pace, n)
		f := m.Tasks[0].Frames[0]
		if !alike(m.Slots, slots) || !alike(f.Regs, regs) || !alike(f.Fences, fences) {
			t.Errorf("pace %d: %+v\n%+v", pace, m.Slots, f)
		}
	}
}

// A machine that is over has no slots, and keeps what it keeps but for its pace.
func TestGivingBackWhenOver(t *testing.T) {
	for _, source := range []string{everyTick, threeTables, lastWord, errorOnItsWay} {
		c, in := verified(t, source), roomy("x")
		moves := impl.Moves(c, in)
		want := impl.Stand(c, in, 0, moves)
		for _, pace := range paces() {
			for _, n := range []int{moves, moves + 1, huge} {
				if got := impl.Canon(c, in, pace, n); !got.Over || !alike(got, want) {
					t.Errorf("pace %d, move %d: %+v", pace, n, got)
				}
				if got := impl.Alive(c, in, pace, n); len(got) != 0 {
					t.Errorf("pace %d, move %d: %v", pace, n, got)
				}
			}
			early := impl.Canon(c, in, pace, moves-1)
			if early.Over || early.Moves != moves-1 || early.Pace != 0 || early.Due != 0 || len(early.Tasks) == 0 {
				t.Errorf("pace %d: %+v", pace, early)
			}
			if first := impl.Canon(c, in, pace, 0); !alike(first, impl.Begin(c, in, 0)) || len(impl.Alive(c, in, pace, 0)) != 0 {
				t.Errorf("pace %d: %+v", pace, first)
			}
		}
	}
}

func TestPeakAndMost(t *testing.T) {
	for _, x := range []struct {
		name, source string
		ticks        int
		most         int
		peaks        map[int]int // by pace
	}{
		{"nothing is made", "proto main regs 1\n list 0; return 0!", 10, 0, map[int]int{0: 0, 1: 0, 1000: 0}},
		{"three tables", threeTables, 10, 1, map[int]int{0: 3, 1: 2, 2: 2, 3: 3, 4: 3, 1000: 3}},
		{"three that are kept", "proto main regs 3\n table 0; table 1; table 2; tick; list 0; return 0!", 10, 3, map[int]int{0: 3, 1: 3, 2: 3, 3: 3, 1000: 3}},
		{"of each kind", "proto main regs 3\n table 0; box 0 0!; fn 1 f; drop 0; list 0; return 0!\n proto f regs 1 ups l0\n list 0; return 0!", 10, 3, map[int]int{0: 3, 1: 3, 1000: 3}},
		{"errors", `
			proto main regs 4
			  const 0 1; try >a 1; index 1 0 0; throw 1!
			a:
			  drop 1; drop 2; try >b 1; index 1 0 0; throw 1!
			b:
			  drop 1; drop 2; list 1; return 1!`, 10, 1, map[int]int{0: 2, 1: 2, 2: 2, 1000: 2}},
		{"no tick", "proto main regs 3\n table 0; tick; table 0; list 1; return 1!", 0, 1, map[int]int{0: 1, 1: 1, 1000: 1}},
		{"an error that ends the run", "proto main regs 3\n const 0 1; index 1 0 0; throw 1!", 10, 1, map[int]int{0: 1, 1: 1, 1000: 1}},
	} {
		c, in := verified(t, x.source), roomy()
		in.Ticks = x.ticks
		if got := impl.Most(c, in); got != x.most {
			t.Errorf("%s: most %d, want %d", x.name, got, x.most)
		}
		for pace, want := range x.peaks {
			if got := impl.Peak(c, in, pace); got != want {
				t.Errorf("%s, pace %d: peak %d, want %d", x.name, pace, got, want)
			}
		}
		wantPaces(t, x.name, c, in)
	}
}

// loopOf is a text that does something n times, with a value in register 0, and register 4 and those above it empty.
func loopOf(n int, body string) string {
	return fmt.Sprintf(`
		proto main regs 9
		  const 0 nil; const 1 1; const 2 %d; const 3 1; for 1
		test:
		  fortest 1 >end; tick; %s
		  fornext 1 >test
		end:
		  list 4; return 4!`, n, body)
}

// P9, and what P8 says of the same loops.
func TestLoopsThatLetGo(t *testing.T) {
	for name, body := range map[string]string{
		"dropped":          "table 4; drop 4",
		"one register":     "table 0",
		"in itself":        "table 4; raw 4 1 4; raw 4 4 4; drop 4",
		"with pairs":       `table 4; const 5 "a"; raw 4 5! 1; raw 4 1 1; drop 4`,
		"of its own kind":  "table 4; ask 4 @setkind 4 4; drop 4",
		"held for a while": "table 4; tick; tick; tick; drop 4",
	} {
		for _, n := range []int{1, 2, 3, 17, 40, 41, 42, 120, 300} {
			c := verified(t, loopOf(n, body))
			if got := impl.Most(c, roomy()); got != 1 {
				t.Errorf("%s, %d tables: most %d", name, n, got)
			}
			if got := impl.Peak(c, roomy(), 0); got != n {
				t.Errorf("%s, %d tables: peak %d without giving back", name, n, got)
			}
			for p := 1; p <= 40; p++ {
				if got := impl.Peak(c, roomy(), p); got > p+1 || got > n || got < min(n, p) {
					t.Errorf("%s, %d tables, pace %d: peak %d", name, n, p, got)
				}
			}
		}
	}
}

// No pace, number of moves, code or input makes them panic; what Begin has no machine for has none here.
func TestGivingBackAtEveryArgument(t *testing.T) {
	good, in := verified(t, lastWord), roomy()
	loose, silent := asm(lastWord), asm("proto main regs 1\n jump 0")
	loose.Protos[1].Ins[0].A = 77
	poor, deep, many := roomy(), roomy(), roomy()
	poor.Ticks, deep.Depth, many.Args = -1, 0, make([]string, impl.MaxInput+1)
	type given struct {
		c    impl.Code
		in   impl.Input
		pace int
	}
	for _, x := range []given{
		{good, in, -1}, {good, in, 1001}, {good, in, huge}, {good, in, tiny},
		{impl.Code{}, in, 0}, {impl.Code{}, in, 1}, {loose, in, 1}, {silent, in, 1},
		{good, impl.Input{}, 1}, {good, poor, 1}, {good, deep, 0}, {good, many, 1},
	} {
		for _, n := range []int{tiny, -1, 0, 1, 20, huge} {
			if got := impl.Canon(x.c, x.in, x.pace, n); !alike(got, impl.Machine{}) {
				t.Errorf("%v: %+v", x, got)
			}
			if got := impl.Alive(x.c, x.in, x.pace, n); len(got) != 0 {
				t.Errorf("%v: %v", x, got)
			}
		}
		if got := impl.Peak(x.c, x.in, x.pace); got != 0 {
			t.Errorf("%v: peak %d", x, got)
		}
		runs := impl.CheckCode(x.c).Code == 0 && impl.InputOk(x.in)
		if got := impl.Most(x.c, x.in); (got != 0) != runs {
			t.Errorf("%v: most %d", x, got)
		}
	}
	for _, n := range []int{tiny, -1} {
		for _, pace := range paces() {
			if got := impl.Canon(good, in, pace, n); !alike(got, impl.Machine{}) || len(impl.Alive(good, in, pace, n)) != 0 {
				t.Errorf("%d moves: %+v", n, got)
			}
		}
	}
}

// Nothing is written into codes and inputs, and a second call answers the same.
func TestGivingBackLeavesWhatItIsGiven(t *testing.T) {
	for _, source := range []string{wholeText, droppedError, lastWord, everyTick} {
		c, in := verified(t, source), roomy("x", "y")
		in.Lines = []string{"one"}
		code, input := copyCode(c), copyInput(in)
		for n := 0; n <= impl.Moves(c, in); n += 7 {
			first, alive := impl.Canon(c, in, 2, n), impl.Alive(c, in, 2, n)
			wantApart(t, first, c, in)
			scribble(reflect.ValueOf(&first).Elem())
			scribble(reflect.ValueOf(&alive).Elem())
			x := newMover(c, in, 2)
			for range n {
				x.move()
			}
			if !alike(impl.Canon(c, in, 2, n), plainCanon(x.m)) || !alike(impl.Alive(c, in, 2, n), plainMarks(&x.m).slots) {
				t.Errorf("move %d: another answer the second time", n)
			}
		}
		if impl.Peak(c, in, 2) != impl.Peak(c, in, 2) || impl.Most(c, in) != impl.Most(c, in) {
			t.Error("another number the second time")
		}
		if !alike(c, code) || !alike(in, input) {
			t.Error("written into what was given")
		}
	}
}
