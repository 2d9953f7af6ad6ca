package tests

import (
	"fmt"
	"slices"
	"strings"
	"testing"

	"loop.example/loom/impl"
)

// Giving back, slot by slot.

const threeTables = "proto main regs 3\n table 0; table 0; table 0; tick; tick; list 1; return 1!"

// Due one below the pace, and at it; what is let go of stays until it is given back.
func TestGivenBackWhenDue(t *testing.T) {
	for pace, want := range []string{
		"none\n T1\n T1- T2\n T1- T2- T3\n T1- T2- T3\n T1- T2- T3\n T1- T2- T3",
		"none\n T1\n T1- T2\n T3 T2-\n T3\n T3\n T3",
		"none\n T1\n T1- T2\n T3 T2-\n T3 T2-\n T3 T2-\n T3 T2-",
		"none\n T1\n T1- T2\n T1- T2- T3\n . . T3\n . . T3\n . . T3",
		"none\n T1\n T1- T2\n T1- T2- T3\n T1- T2- T3\n T1- T2- T3\n T1- T2- T3",
	} {
		wantSlots(t, "three tables", threeTables, pace, 0, want)
	}
	c := verified(t, threeTables)
	for pace, want := range [][]int{{0, 1, 2, 3, 3, 3}, {0, 1, 1, 1, 0, 0}, {0, 1, 2, 1, 1, 1}, {0, 1, 2, 3, 0, 0}, {0, 1, 2, 3, 3, 3}} {
		for n, due := range want {
			if m := impl.Stand(c, roomy(), pace, n); m.Due != due || m.Births != min(n, 3) || m.Vers != m.Births {
				t.Errorf("pace %d, move %d: %+v", pace, n, m)
			}
		}
	}
}

// Free slots in the middle stay and are used again, the least first; those at the end are dropped.
func TestSlotsUsedAgain(t *testing.T) {
	const source = `
		proto main regs 6
		  table 0; table 1; table 2; drop 1; tick; table 3; tick; table 1; drop 2; drop 3; box 2 0; tick; list 3; return 3!`
	wantSlots(t, "used again", source, 1, 3, `
		T1 T2 T3
		T1 T2- T3
		T1 T2- T3
		T1 T2- T3 T4
		T1 . T3 T4
		T1 T5 T3 T4
		T1 T5 T3- T4-
		T1 T5 T3- T4- B6
		T1 T5 . . B6
		T1 T5 . . B6
		T1 T5 . . B6
		T1- T5- . . B6-
		none`)
	wantSlots(t, "at the end", `
		proto main regs 6
		  table 0; table 1; table 2; table 3; drop 1; drop 2; drop 3; tick; fn 1 f; tick; table 2; table 3; table 4; list 5; return 5!
		proto f regs 1
		  list 0; return 0!`, 5, 4, `
		T1 T2 T3 T4
		T1 T2- T3- T4-
		T1 T2- T3- T4-
		T1 T2- T3- T4- F5
		T1 . . . F5
		T1 T6 . . F5
		T1 T6 T7 . F5
		T1 T6 T7 T8 F5
		T1 T6 T7 T8 F5`)
}

// A table that a handler makes and returns.
const givenByHandler = `
	proto main regs 6
	  table 0; table 1; const 2 "index"; fn 3 f; raw 1 2! 3!; ask 0 @setkind 0! 1!; at 2; const 2 "x"; index 2 0 2!; at 3; list 0; return 0!
	proto f params 2 regs 4
	  table 2; list 3; add 3 2!; return 3!`

// A table that is thrown through a guard that keeps another one.
const errorOnItsWay = `
	proto main regs 8
	  fn 0 f; try >h 1; list 1; call 1 0 1!; drop 1; endtry; jump >end
	h:
	  drop 1; drop 2
	end:
	  drop 0; list 3; return 3!
	proto f regs 6
	  scope 0; fn 0 g; list 1; table 2; add 1 2!; defer 0! 1!; table 0; throw 0!
	proto g params 1 regs 3
	  box 0 0!; list 1; return 1!`

// A table that is thrown by a defer of a task that is given up.
const droppedError = `
	proto main regs 8
	  fn 0 f; ask 1 @task 0!; ask 2 @resume 1; ask 2 @giveup 1; drop 1; drop 2; table 3; tick; list 3; return 3!
	proto f regs 6
	  scope 0; fn 0 g; list 1; defer 0! 1!; fn 0 h; list 1; defer 0! 1!; ask 0 @yield; list 0; return 0!
	proto g regs 3
	  table 0; box 1 0!; tick; list 2; return 2!
	proto h regs 3
	  table 0; throw 0!`

// A table that is let go of and told its last word.
const lastWord = `
	proto main regs 6
	  table 0; const 1 "last"; fn 2 f; raw 0 1! 2!; table 1; ask 1 @setkind 1! 0!; drop 1; tick; table 0; tick; ask 0 @collect; table 0; tick; list 0; return 0!
	proto f params 1 regs 3
	  table 1; list 2; return 2!`

// What the machine may still need, by where it has it in its hands.
func TestWhatIsInHands(t *testing.T) {
	wantSlots(t, "a return, and what is given", givenByHandler, 1, 16, `
		T1 T2 F3 T4
		T1 T2 F3 T4
		T1 T2 F3 T4
		T1 T2 F3 T4
		T1 T2 F3 T4
		T1 T2 F3 T4
		T1- T2- F3- T4`)
	wantSlots(t, "an error on its way, in a call that is being left, and what guards keep", errorOnItsWay, 1, 9, `
		F1 F2 T3
		F1 F2 T3
		F1 F2 T3 T4
		F1 F2 T3 T4
		F1 F2 T3 T4
		F1 F2 T3 T4
		F1 F2 T3 T4 B5
		F1 F2 T3 T4 B5
		F1 F2 T3 T4 B5
		F1 F2- T3- T4 B5-
		F1 F2- T3- T4 B5-
		F1 F2- T3- T4 B5-
		F1 F2- T3- T4 B5-
		F1 F2- T3- T4 B5-
		F1 F2- T3- T4- B5-
		F1- F2- T3- T4- B5-`)
	wantSlots(t, "an error that was dropped", droppedError, 1, 29, `
		F1 F2 F3 T4
		F1 F2 F3 T4
		F1 F2 F3- T4
		F1 F2 F3- T4
		F1 F2 F3- T4
		F1 F2 F3- T4 T5
		F1 F2 B6 T4 T5
		F1 F2 B6 T4 T5
		F1 F2 B6 T4 T5
		F1 F2 B6 T4 T5
		F1 F2- B6- T4 T5-
		F1 F2- B6- T4 T5-
		F1- F2- B6- T4 T5-
		F1- F2- B6- T4 T5-
		F1- F2- B6- T4 T5-
		F1- F2- B6- T4- T5-
		F1- F2- B6- T4- T5-
		F1- F2- B6- T4- T5- T7
		. . . . . T7`)
}

// A table that wants a last word is kept until it has been told, with what it holds; then while it is told.
func TestLastWordsAreKept(t *testing.T) {
	wantSlots(t, "a last word", lastWord, 1, 12, `
		T1 F2 T3
		T1 F2 T3
		T1 F2 T3 T4
		T1 F2 T3 T4
		T1 F2 T3 T4
		T1 F2 T3 T4
		T1 F2 T3 T4
		T1 F2 T3 T4
		T1 F2 T3 T4 T5
		T1 F2 T3 T4 T5
		T1 F2 T3 T4 T5
		T1 F2 T3 T4 T5-
		T1- F2- T3- T4 T5-
		T1- F2- T3- T4 T5-
		T1- F2- T3- T4 T5-
		T1- F2- T3- T4- T5-
		T1- F2- T3- T4- T5- T6
		. . . . . T6`)
	// It wants none any more as soon as its kind is another one.
	wantSlots(t, "no last word any more", `
		proto main regs 8
		  table 0; const 1 "last"; fn 2 f; raw 0 1! 2!; table 1; ask 1 @setkind 1! 0!
		  const 2 nil; ask 3 @setkind 1 2!; drop 3; drop 1; table 3; tick; list 0; return 0!
		proto f regs 3
		  list 2; return 2!`, 1, 19, `
		T1- F2- T3
		T1- F2- T3-
		T1- F2- T3- T4
		. . . T4`)
}

// Weak pairs are taken for strong: what is only held so stays until a collect takes the pair out.
func TestWeakPairsAreKept(t *testing.T) {
	wantSlots(t, "weak", `
		proto main regs 8
		  table 0; table 1; const 2 "weak"; const 3 "kv"; raw 1 2! 3!; ask 0 @setkind 0! 1!
		  table 1; table 2; raw 0 1! 2!; table 1; tick; ask 2 @collect; drop 2; drop 1; table 1; tick; list 2; return 2!`, 1, 12, `
		T1 T2 T3
		T1 T2 T3 T4
		T1 T2 T3 T4
		T1 T2 T3 T4 T5
		T1 T2 T3 T4 T5
		T1 T2 T3 T4 T5
		T1 T2 T3 T4 T5
		T1 T2 T3 T4 T5
		T1 T2 T3- T4- T5`)
}

// A task that nobody can resume is lost, with what it held; those that are done stay so.
func TestLostTasks(t *testing.T) {
	const source = `
		proto main regs 6
		  fn 0 f; ask 1 @task 0; ask 2 @resume 1 0; ask 2 @task 0!; drop 1; table 3; tick; drop 2; table 3; tick; list 0; return 0!
		proto f params 1 regs 5
		  table 1; ask 2 @yield; list 3; return 3!`
	wantSlots(t, "lost", source, 1, 20, `
		F1 T2
		F1 T2
		F1 T2-
		F1 T2- T3
		F1 . T3
		F1- . T3
		F1- T4 T3-
		. T4`)
	c := verified(t, source)
	for n, want := range map[int]string{5: "running new", 11: "busy running", 15: "running waiting", 23: "running waiting new", 24: "running lost new", 26: "running lost new", 27: "running lost lost"} {
		if got := toldTasks(impl.Stand(c, roomy(), 1, n)); got != want {
			t.Errorf("move %d: %s, want %s", n, got, want)
		}
	}
	if m := impl.Stand(c, roomy(), 1, 27); !alike(m.Tasks[1:], []impl.Task{{State: impl.RLost, Waiter: -1}, {State: impl.RLost, Waiter: -1}}) {
		t.Errorf("%+v", m.Tasks)
	}
	// Canon gives back at every pace: it is lost there as soon as nobody can resume it.
	for n, want := range map[int]string{21: "running waiting new", 22: "running lost new", 24: "running lost new", 25: "running lost lost"} {
		for _, pace := range paces() {
			if got := toldTasks(impl.Canon(c, roomy(), pace, n)); got != want {
				t.Errorf("pace %d, move %d: %s, want %s", pace, n, got, want)
			}
		}
	}
}

// Tasks that hold themselves or each other alone are lost; one that a table with a last word holds is not.
func TestTasksThatHoldTasks(t *testing.T) {
	c := verified(t, `
		proto main regs 9
		  fn 0 f; ask 1 @task 0; ask 2 @task 0; ask 3 @task 0; ask 4 @task 0
		  ask 5 @resume 1 1; ask 5 @resume 2 3; ask 5 @resume 3 2; drop 5
		  table 5; const 6 "last"; raw 5 6! 0!; table 6; const 0 1; raw 6 0! 4!; ask 6 @setkind 6! 5!
		  drop 6; drop 1; drop 2; drop 3; table 0; tick; at 7; list 1; return 1!
		proto f params 1 regs 5
		  ask 1 @yield; list 2; return 2!`)
	n := moveAt(c, roomy(), 0, len(c.Protos[0].Ins)-2)
	for pace, want := range map[int]string{0: "running waiting waiting waiting new", 1: "running lost lost lost new", 2: "running lost lost lost new", 1000: "running waiting waiting waiting new"} {
		if got := toldTasks(impl.Stand(c, roomy(), pace, n)); got != want {
			t.Errorf("pace %d: %s", pace, got)
		}
	}
	wantPaces(t, "tasks that hold tasks", c, roomy())
}

// A slot that is used again behind a cache that named it: the cache is not true of what came into it.
func TestSlotsBehindCaches(t *testing.T) {
	for _, x := range []struct {
		name, made   string
		hits, misses int
		prints       string
	}{
		{"the same keys", `const 5 "a"; raw 4 5! 1`, 0, 10, "1 2 3 4 5 6 7 8 9 10"},
		{"no such key", `const 5 "b"; raw 4 5! 1`, 0, 10, "nil nil nil nil nil nil nil nil nil nil"},
		{"another place", `raw 4 1 1; const 5 "a"; raw 4 5! 1`, 0, 10, "1 2 3 4 5 6 7 8 9 10"},
		{"no keys at all", ``, 0, 10, "nil nil nil nil nil nil nil nil nil nil"},
	} {
		c := verified(t, fmt.Sprintf(`
			proto main regs 10
			  const 1 1; const 2 10; const 3 1; for 1
			test:
			  fortest 1 >end; tick
			  table 4; %s
			  const 5 "a"; index 4 4! 5!; show 4!
			  fornext 1 >test
			end:
			  list 4; return 4!`, x.made))
		for _, pace := range paces() {
			m := impl.Stand(c, roomy(), pace, huge)
			var prints []string
			for _, r := range m.Rep.Recs {
				prints = append(prints, r.Text)
			}
			if m.Hits != x.hits || m.Misses != x.misses || strings.Join(prints, " ") != x.prints {
				t.Errorf("%s, pace %d: %d hits, %d misses, %v", x.name, pace, m.Hits, m.Misses, prints)
			}
		}
		if peak := impl.Peak(c, roomy(), 1); peak > 2 {
			t.Errorf("%s: no slot is used again: %d", x.name, peak)
		}
		wantPaces(t, x.name, c, roomy())
	}
}

// P10, at several paces: nothing of a cache hangs on what is given back.
func TestFieldsReadOften(t *testing.T) {
	for n := 1; n <= 100; n++ {
		c := verified(t, fieldRead(n, "table 4; drop 4"))
		for _, pace := range []int{0, 1, 7} {
			if m := impl.Stand(c, roomy(), pace, huge); m.Hits != n-1 || m.Misses != 1 {
				t.Errorf("read %d times, pace %d: %d hits, %d misses", n, pace, m.Hits, m.Misses)
			}
		}
	}
	// One miss more for each time that a key comes, or goes, between two readings.
	for _, changes := range []int{1, 2, 5, 9} {
		comes := fieldRead(10, fmt.Sprintf("const 4 %d; binary 4 le 1 4!; unless 4! >no; raw 0 1 1\n no:\n", changes))
		goes := strings.Replace(strings.Replace(comes, "raw 0 1 1", "const 4 nil; raw 0 1 4!", 1), "table 0;", "table 0; "+keysTo(9), 1)
		for name, source := range map[string]string{"come": comes, "go": goes} {
			c := verified(t, source)
			for _, pace := range paces() {
				if m := impl.Stand(c, roomy(), pace, huge); m.Hits != 9-changes || m.Misses != 1+changes {
					t.Errorf("%d keys %s, pace %d: %d hits, %d misses", changes, name, pace, m.Hits, m.Misses)
				}
			}
		}
	}
}

// keysTo is a text that puts the keys 1 .. n into the table in register 0.
func keysTo(n int) string {
	var out strings.Builder
	for i := range n {
		fmt.Fprintf(&out, "const 1 %d; raw 0 1 1; drop 1; ", i+1)
	}
	return out.String()
}

// Canon.

// bornOrder is the Borns of a machine's slots.
func bornOrder(m impl.Machine) []int {
	var out []int
	for _, s := range m.Slots {
		out = append(out, s.Born)
	}
	return out
}

// wantOrder holds the order in which Canon meets what is alive, by Born, at all paces, behind the moves from number from on.
func wantOrder(t *testing.T, name, source string, from int, want ...[]int) {
	t.Helper()
	c := verified(t, source)
	for i, order := range want {
		for _, pace := range paces() {
			if got := bornOrder(impl.Canon(c, roomy(), pace, from+i)); !slices.Equal(got, order) {
				t.Errorf("%s, pace %d, move %d: got %v, want %v (%s)", name, pace, from+i, got, order, toldMachine(c, impl.Stand(c, roomy(), pace, from+i)))
			}
		}
	}
	wantPaces(t, name, c, roomy())
}

func TestOrderOfCanon(t *testing.T) {
	// A box and at once what it holds; registers in order, the elements of lists among them; then what tables and fns name, first come first.
	wantOrder(t, "registers", `
		proto main regs 10
		  table 0; box 0 0!
		  table 1; table 2; fn 3 f
		  const 4 "k"; raw 2 1 4; raw 2 4! 3; ask 2 @setkind 2! 1!
		  list 1; table 4; add 1 4!; ask 4 @task 3; add 1 4!; table 5
		  tick; list 6; return 6!
		proto f params 1 regs 4 ups l0
		  list 1; return 1!`, 11,
		[]int{2, 1, 3, 5, 4}, []int{2, 1, 5, 4, 3}, []int{2, 1, 5, 4, 3}, []int{2, 1, 4, 5, 3}, []int{2, 1, 4, 5, 3},
		[]int{2, 1, 4, 5, 6, 3}, []int{2, 1, 6, 4, 5, 3})
	// What is dropped comes ahead of the frames, the fn of a call ahead of its registers.
	wantOrder(t, "dropped", droppedError, 28,
		[]int{1, 2, 3, 4}, []int{1, 2, 3, 4}, []int{1, 2, 3, 4}, []int{1, 2, 4}, []int{4, 1, 2}, []int{4, 1, 2}, []int{4, 1, 2, 5}, []int{4, 1, 2, 6, 5})
	// The Way of a call comes ahead of what its guards keep, that of the machine behind all calls.
	wantOrder(t, "ways", errorOnItsWay, 11, []int{1, 4, 2, 3}, []int{1, 2, 3, 4}, []int{1, 4, 2, 3}, []int{1, 4, 2, 3}, []int{1, 4, 2, 5, 3})
	wantOrder(t, "given", givenByHandler, 16, []int{1, 3, 4, 2}, []int{1, 3, 4, 2}, []int{1, 4, 2, 3}, []int{1, 4, 2, 3}, []int{1, 4, 2, 3})
	wantOrder(t, "a collect", lastWord, 18, []int{4, 3, 1, 2}, []int{4, 3, 2, 1}, []int{4, 3, 2, 5, 1})
	wantOrder(t, "a table's kind, then key and value of each pair", `
		proto main regs 6
		  table 0; table 1; table 2; raw 0 1! 2!; table 1; table 2; raw 0 2! 1!; table 1; ask 0 @setkind 0! 1!
		  tick; list 0; return 0!`, 13, []int{1, 6, 2, 3, 5, 4}, []int{1, 6, 2, 3, 5, 4}, []int{1, 6, 2, 3, 5, 4}, nil)
	wantOrder(t, "a fn's boxes, each with what it holds", `
		proto main regs 4
		  table 0; box 0 0!; table 1; box 1 1!; fn 2 f; drop 0; drop 1; tick; list 0; return 0!
		proto f regs 1 ups l1 l0
		  list 0; return 0!`, 4, []int{2, 1, 4, 3}, []int{2, 1, 4, 3, 5}, []int{5, 4, 3, 2, 1})
	wantOrder(t, "a task that waits", `
		proto main regs 6
		  fn 0 f; ask 1 @task 0!; ask 2 @resume 1; drop 2; table 0; tick; list 0; return 0!
		proto f regs 4
		  table 0; ask 1 @yield; list 2; return 2!`, 15, []int{1, 2}, []int{1, 2}, []int{3, 1, 2}, []int{3, 1, 2})
	// The running task, then the one that waits for it, and so on.
	wantOrder(t, "tasks that wait for others", `
		proto main regs 6
		  table 0; fn 1 f; ask 2 @task 1!; ask 3 @resume 2; list 4; return 4!
		proto f regs 6
		  table 0; fn 1 g; ask 2 @task 1!; ask 3 @resume 2; list 4; return 4!
		proto g regs 4
		  table 0; tick; list 1; return 1!`, 21, []int{2, 3, 1, 4}, []int{4, 2, 3, 1}, []int{4, 5, 2, 3, 1})
	// Those that want a last word, by Born, though the later one stands in the lower slot at pace 1.
	const wanting = `
		proto main regs 8
		  table 0; table 1; const 2 "last"; fn 3 f; raw 1 2! 3!; table 3; ask 3 @setkind 3! 1; drop 0; table 4; tick
		  table 5; ask 5 @setkind 5! 1; drop 1; drop 3; drop 4; drop 5; tick; list 0; return 0!
		proto f regs 1
		  list 0; return 0!`
	c := verified(t, wanting)
	n := moveAt(c, roomy(), 0, len(c.Protos[0].Ins)-2)
	wantOrder(t, "last words", wanting, n, []int{4, 6, 2, 3})
	if got := toldSlots(c, roomy(), 1, n); got != "T6 T2 F3 T4 T5-" {
		t.Errorf("the slots of what wants a last word: %s", got)
	}
}
