package tests

import (
	"fmt"
	"slices"
	"strings"
	"testing"

	"loop.example/loom/impl"
)

// The edges that 1.3 and 4.1 to 4.9 name, at the last number that goes through and at the next.

func withCells(n int) impl.Input {
	in := roomy()
	in.Cells = n
	return in
}

func withDepth(n int) impl.Input {
	in := roomy()
	in.Depth = n
	return in
}

func withTicks(n int) impl.Input {
	in := roomy()
	in.Ticks = n
	return in
}

// repeated is a text many times over; each # in it becomes the number of the time, from 1.
func repeated(n int, s string) string {
	var out strings.Builder
	for i := range n {
		out.WriteString(strings.ReplaceAll(s, "#", fmt.Sprint(i+1)) + "\n")
	}
	return out.String()
}

func TestCells(t *testing.T) {
	for _, x := range []struct {
		name, body string
		cells      int
	}{
		{"a table", "at 1; table 0; drop 0", 1},
		{"a pair that comes", "table 0; const 1 5; at 1; raw 0 1 1; drop 0", 2},
		{"a pair by set", "table 0; const 1 5; at 1; set 0 1 1; drop 0", 2},
		{"a pair by a builtin", "table 0; const 1 5; at 1; ask 2 @rawset 0 1 1; drop 0", 2},
		{"pairs by a list", "table 0; const 1 5; list 2; add 2 1; add 2 1; add 2 1; at 1; rawall 0 1 2!; drop 0", 4},
		{"a fn with two ups", "const 0 1; box 0 0!; at 1; fn 1 f; drop 0", 3},
		{"a task", "const 0 1; box 0 0!; fn 1 f; at 1; ask 2 @task 1; drop 0", 4},
		{"a key again", "table 0; const 1 5; at 1; raw 0 1 1; raw 0 1 1; const 2 nil; raw 0 1 2!; raw 0 1 1; drop 0", 3},
	} {
		source := "proto main regs 6\n" + x.body + "\nlist 0; return 0!\n"
		if strings.Contains(x.body, "fn") {
			source += "proto f regs 1 ups l0 l0\n list 0; return 0!"
		}
		if rep := wantRun(t, x.name, source, withCells(x.cells), "ok", "-"); rep.Made != x.cells {
			t.Errorf("%s: made %d", x.name, rep.Made)
		}
		if rep := wantRun(t, x.name, source, withCells(x.cells-1), "error error 9 @ main:1", "throw 0 0 1 error 9"); rep.Made > x.cells-1 {
			t.Errorf("%s: made %d", x.name, rep.Made)
		}
	}
}

func TestCellsBehindOtherErrors(t *testing.T) {
	for _, x := range []struct{ body, end string }{
		{"const 1 nil; raw 0 1 1", "5"},
		{"const 1 nil; set 0 1 1", "5"},
		{"const 1 5; raw 1 1 1", "7"},
		{"const 1 5; ask 2 @task 1", "12"},
		{"const 1 5; raw 0 1 1", "9"},
	} {
		wantRun(t, x.body, "proto main regs 6\n table 0; "+x.body+"; list 0; return 0!", withCells(1), "error error "+x.end+" @ main:0", "-")
	}
	// The table of an error makes no cells.
	wantPrints(t, "in the error's table", `
		proto main regs 6
		  line 3
		  try >h 0
		  table 0; table 0; throw 0
		h:
		  const 2 "code"; index 2 0 2!; const 3 "line"; index 3 0 3!; show 2 3
		  ask 2 @cells; show 2
		  list 2; return 2!`, withCells(1), "ok", "9 3", "3")
}

// What lives is what the last collect counted.
func TestCellsBehindACollect(t *testing.T) {
	const source = `
		proto main regs 7
		  table 0; table 1; table 2; drop 1; drop 2
		  ask 1 @collect; show 1
		  at 1; table 1; table 1; table 1; drop 0
		  list 0; return 0!`
	if rep := wantPrints(t, "collected", source, withCells(4), "ok", "1"); rep.Made != 6 {
		t.Errorf("made %d", rep.Made)
	}
	wantPrints(t, "one too many", source, withCells(3), "error error 9 @ main:1", "1")
}

func TestDepth(t *testing.T) {
	const deeper = `
		proto main regs 5
		  const 0 nil; box 0 0!; fn 1 f; put 0 1; list 2; call 1 1! 2!; return 1!
		proto f regs 3 ups l0
		  tick; upget 0 0; list 1; call 0 0! 1!; return 0!`
	for _, depth := range []int{1, 2, 7, 60} {
		rep := wantRun(t, "deeper", deeper, withDepth(depth), "error error 8 @ "+strings.Repeat("f:0 ", depth-1)+"main:0", "-")
		if n := strings.Count(toldRecords(rep), "call"); n != depth-1 {
			t.Errorf("depth %d: %d calls", depth, n)
		}
	}
	for _, x := range []struct {
		name, body string
		depth      int
	}{
		{"a call", "fn 0 f; list 1; call 0 0! 1!; drop 0", 2},
		{"a defer", "scope 0; fn 0 f; list 1; defer 0! 1!; leave", 2},
		{"a handler", "table 0; table 1; const 2 \"neg\"; fn 3 f; raw 1 2! 3!; ask 0 @setkind 0 1; unary 0 neg 0; drop 0; drop 1", 2},
	} {
		source := "proto main regs 7\n at 4\n" + x.body + "\nlist 0; return 0!\nproto f rest regs 1\n return 0!"
		wantRun(t, x.name, source, withDepth(x.depth), "ok", "-")
		wantRun(t, x.name, source, withDepth(x.depth-1), "error error 8 @ main:4", "throw 0 0 4 error 8")
	}
	// A last word has the depth of the collect, and what leaves it is caught.
	const last = `
		proto main regs 6
		  line 4
		  table 0; fn 1 f; const 2 "last"; raw 0 2! 1!; table 1; ask 1 @setkind 1 0!; drop 1
		  ask 1 @collect; list 0; add 0 1!; return 0!
		proto f rest regs 1
		  list 0; return 0!`
	wantRun(t, "a last word", last, withDepth(2), "ok 0", "line 0 0 4\n last 0 0 0\n call 0 1 0 f\n back 0 1 0")
	wantRun(t, "a last word, too deep", last, withDepth(1), "ok 0", "line 0 0 4\n last 0 0 0\n throw 0 0 4 error 8\n catch 0 0 0 error 8")
}

// The calls of the tasks that wait count too; where a new task's own call cannot be, the error is thrown in it.
func TestDepthOfTasks(t *testing.T) {
	const source = `
		proto main regs 5
		  line 3
		  fn 0 f; ask 1 @task 0!; const 2 @resume; list 3; add 3 1!; call 2 2! 3!; return 2!
		proto f regs 3
		  fn 0 g; list 1; call 0 0! 1!; return 0!
		proto g regs 1
		  list 0; return 0!`
	wantRun(t, "all open", source, withDepth(3), "ok true", "line 0 0 3\n turn 1 0 0 resume\n call 1 1 0 f\n call 1 2 0 g\n back 1 2 0\n back 1 1 0\n turn 0 0 0 done")
	wantRun(t, "one less", source, withDepth(2), "ok false table f:0", "line 0 0 3\n turn 1 0 0 resume\n call 1 1 0 f\n throw 1 1 0 error 8\n back 1 1 0 error\n turn 0 0 0 error")
	wantRun(t, "two less", source, withDepth(1), "ok false table ", "line 0 0 3\n turn 1 0 0 resume\n throw 1 0 0 error 8\n turn 0 0 0 error")
	wantMoves(t, "two less", source, withDepth(1), 11, `
		K1: way error T1
		main@10:3 [. . . . .] given false T1 ""
		main@11:3 [. . (false T1 "") . .]
		main@11:3 [. . . . .] <return false T1 "" saved 3>
		given false T1 ""
		over ok false table`)
}

func TestLongLists(t *testing.T) {
	for n, end := range map[int]string{250: "ok 250", 251: "error error 4 @ main:9"} {
		count := fmt.Sprintf(`
			proto main regs 9
			  list 4; const 0 1; const 1 %d; const 2 1; for 0
			test:
			  fortest 0 >end; tick; at 9; add 4 0; at 8; fornext 0 >test
			end:
			  drop 0; drop 1; drop 2
			  table 0; const 1 1; rawall 0 1! 4!; unary 1 len 0; list 4; add 4 1!; return 4!`, n)
		wantRun(t, fmt.Sprint("add ", n), count, roomy(), end, "-")
	}
	for n, end := range map[int]string{125: "ok", 126: "error error 4 @ main:9"} {
		wantRun(t, fmt.Sprint("join ", n), "proto main regs 3\n list 0; const 1 7;"+repeated(n, "add 0 1")+"at 9; join 0 0; copy 2 0; at 8; drop 2; list 0; return 0", roomy(), end, "-")
	}
	// A list may be longer than any that is put together: nothing can come behind it.
	over := "proto main regs 9\n fn 0 f; ask 1 @task 0!; const 0 @resume; list 2; add 2 1!; const 1 7;" + repeated(249, "add 2 1") +
		"call 0 0! 2!; pick 3 0 250; show 3; at 9; add 0 1; return 0\n" +
		"proto f rest regs 5\n pick 1 0 0; add 0 1; return 0!"
	wantPrints(t, "250 values and a true", over, roomy(), "error error 4 @ main:9", "7")
}

func TestLongTables(t *testing.T) {
	full := "proto main regs 9\n table 0; const 1 1; list 2;" + repeated(250, "add 2 1") + "rawall 0 1 2; const 1 251; rawall 0 1 2!; unary 2 len 0; show 2; at 9;"
	for _, x := range []struct{ body, end string }{
		{"const 2 500; raw 0 2 2", "ok"},
		{"const 2 501; const 3 nil; raw 0 2 3; set 0 2 3", "ok"},
		{"const 2 501; raw 0 2 2", "error error 4 @ main:9"},
		{"const 2 501; set 0 2 2", "error error 4 @ main:9"},
		{"const 2 501; ask 3 @rawset 0 2 2", "error error 4 @ main:9"},
		{"const 2 501; const 3 nil; raw 0 1 3; raw 0 2 2", "ok"},
	} {
		wantPrints(t, x.body, full+x.body+"; list 2; return 2!", withCells(502), x.end, "500")
	}
	// The elements ahead of the one that fails have been put in.
	wantPrints(t, "a list that does not fit", `
		proto main regs 9
		  table 0; const 1 9223372036854775806; list 2; add 2 1; add 2 1; add 2 1
		  try >h 3
		  rawall 0 1 2
		  endtry; throw 1
		h:
		  drop 3; drop 4
		  index 3 0 1; show 3; const 3 9223372036854775807; index 3 0 3!; show 3
		  const 3 -9223372036854775808; index 3 0 3!; show 3
		  list 5; return 5!`, withCells(3), "ok", "9223372036854775806", "9223372036854775806", "nil")
	wantPrints(t, "numbers wrap", `
		proto main regs 9
		  table 0; const 1 9223372036854775807; list 2; add 2 1; add 2 1; rawall 0 1 2
		  const 3 -9223372036854775808; index 3 0 3!; show 3
		  list 5; return 5!`, roomy(), "ok", "9223372036854775807")
	wantPrints(t, "nil lets go", `
		proto main regs 9
		  table 0; const 1 1; list 2; add 2 1; add 2 1; rawall 0 1 2
		  list 2; const 3 nil; add 2 3; add 2 1; add 2 3!; rawall 0 1 2!
		  index 2 0 1; unary 3 len 0; show 2 3
		  list 5; return 5!`, roomy(), "ok", "nil 0")
	for _, x := range []struct{ body, end string }{
		{"const 0 1; const 1 1; list 2; rawall 0 1 2", "7"},
		{"table 0; const 1 1.0; list 2; rawall 0 1 2", "5"},
		{"const 0 1; const 1 nil; list 2; rawall 0 1 2", "7"},
	} {
		wantRun(t, x.body, "proto main regs 5\n"+x.body+"; return 2", roomy(), "error error "+x.end+" @ main:0", "-")
	}
}

func TestLongTexts(t *testing.T) {
	long := func(n int) string { return fmt.Sprintf("%q", strings.Repeat("x", n)) }
	for n, end := range map[int]string{3996: "ok", 3997: "error error 4 @ main:9"} {
		wantRun(t, fmt.Sprint("print ", n), "proto main regs 9\n const 0 "+long(n)+"; const 1 nil; at 9; show 0 1; list 0; return 0", roomy(), end, "-")
	}
	for n, end := range map[int]string{3998: "ok 4000", 3999: "error error 4 @ main:9"} {
		wantRun(t, fmt.Sprint("join ", n), "proto main regs 9\n const 0 "+long(n)+"; const 1 17; at 9; binary 0 join 0 1; unary 0 len 0; list 1; add 1 0; return 1", roomy(), end, "-")
		wantRun(t, fmt.Sprint("QWith join ", n), "proto main regs 9\n const 0 "+long(n)+"; at 9; const 1 17; binary 0 join 1! 0!; unary 0 len 0; list 1; add 1 0; return 1", roomy(), end, "-")
	}
}

// chain is a text in which each of n tables has the one made before it (at first the value of begin) as a handler; register 0 holds the last one.
func chain(n int, begin, handler, end, more string) string {
	return "proto main regs 9\n" + begin + "\n" +
		repeated(n, `table 1; table 2; const 3 "`+handler+`"; raw 2 3! 0!; ask 0 @setkind 1! 2!`) +
		"at 9;" + end + "; list 8; return 8!\n" + more
}

func TestChains(t *testing.T) {
	for n, loop := range map[int]bool{1: false, 20: false, 21: true, 30: true} {
		for _, x := range []struct{ begin, handler, end, print string }{
			{`table 0; const 1 "a"; raw 0 1 1!`, "index", `const 1 "a"; index 1 0 1!; show 1`, "a"},
			{`table 0`, "index", `const 1 "a"; index 1 0 1; show 1`, "nil"},
			{`const 0 @rawget`, "index", `const 1 "a"; index 1 0 1; show 1`, ""},
			{`table 0; move 4 0`, "setindex", `const 1 "a"; set 0 1 1; index 1 4 1; show 1`, "a"},
		} {
			if x.print == "" { // the call itself is no step: one more table goes through
				end, prints := "ok", []string{"nil"}
				if n > 21 {
					end, prints = "error error 11 @ main:9", nil
				}
				wantPrints(t, fmt.Sprint(x.handler, " by a call ", n), chain(n, x.begin, x.handler, x.end, ""), roomy(), end, prints...)
				continue
			}
			end, prints := "ok", []string{x.print}
			if loop {
				end, prints = "error error 11 @ main:9", nil
			}
			wantPrints(t, fmt.Sprint(x.handler, " ", n), chain(n, x.begin, x.handler, x.end, ""), roomy(), end, prints...)
		}
		source := chain(n, "fn 0 f", "call", "list 1; call 1 0 1!; pick 1 1 0; show 1", "proto f rest regs 4\n pick 1 0 19; pick 2 0 0; drop 0; list 0; add 0 2!; return 0!")
		end, prints := "ok", []string{"table"}
		if loop {
			end, prints = "error error 11 @ main:9", nil
		}
		wantPrints(t, fmt.Sprint("call ", n), source, roomy(), end, prints...)
	}
	// Each handler has a tick of its own; the one too many has none.
	for n, ticks := range map[int]int{1: 1 + 2, 20: 20 + 21, 21: 21 + 21, 25: 25 + 21} {
		rep := ranOf(t, verified(t, chain(n, "const 0 @read", "call", "list 1; call 1 0 1!; drop 1", "")), roomy())
		if rep.Ticks != ticks {
			t.Errorf("%d handlers: %d ticks, not %d", n, rep.Ticks, ticks)
		}
	}
	wantRun(t, "a circle", `
		proto main regs 9
		  table 0; table 1; const 2 "call"; raw 1 2! 0; ask 0 @setkind 0 1!
		  at 9; list 1; call 1 0 1!; return 1`, withTicks(22), "error error 11 @ main:9", "throw 0 0 9 error 11")
}

func TestManyTasks(t *testing.T) {
	for n, end := range map[int]string{100: "ok", 101: "error error 10 @ main:9"} {
		source := fmt.Sprintf(`
			proto main regs 9
			  fn 4 f; const 0 1; const 1 %d; const 2 1; for 0
			test:
			  fortest 0 >end; at 9; ask 3 @task 4; drop 3; fornext 0 >test
			end:
			  drop 0; list 0; return 0!
			proto f regs 1
			  list 0; return 0!`, n)
		wantRun(t, fmt.Sprint(n, " tasks"), source, roomy(), end, "-")
	}
}

// More records than there is room for end a run as missing ticks do.
func TestManyRecords(t *testing.T) {
	source := func(blocks int, tail string) string {
		return `
			proto main regs 9
			  const 0 1; const 1 5000; const 2 1; for 0
			test:
			  fortest 0 >end; tick
			` + repeated(blocks, "try >h# 3; throw 0\n h#:\n drop 3; drop 4") + `
			  fornext 0 >test
			end:
			  ` + tail + `list 3; return 3!`
	}
	rep := ranOf(t, verified(t, source(10, "")), roomy())
	if rep.Code != 0 || len(rep.Recs) != 100000 || rep.Ticks != 5000 {
		t.Error("at the limit:", rep.Code, len(rep.Recs), rep.Ticks)
	}
	c := verified(t, source(10, "try >x 3; throw 0\n x:\n drop 3; drop 4;"))
	rep = ranOf(t, c, roomy())
	if rep.Code != 2 || len(rep.Recs) != 100000 || rep.Ticks != 5000 {
		t.Error("one more:", rep.Code, len(rep.Recs), rep.Ticks)
	}
	if want := plainRun(c, roomy()); !alike(rep, want) || !alike(impl.RunLoom(c, roomy(), 40), want) {
		t.Error("not as when stepped plainly")
	}
	if !impl.LookLoom(c, roomy(), 1, 99999).Ok || impl.LookLoom(c, roomy(), 1, 100000).Ok {
		t.Error("the last record cannot be looked at, or one behind it can")
	}
}

// everyTick has each kind of tick: lines, ticks, calls of fns, of builtins and of tables, turns by a table and by a fn, joins, handlers, defers, tasks and last words.
const everyTick = `
	proto main line 1 regs 9
	  line 2; tick
	  table 0; fn 1 f; const 2 "last"; raw 0 2! 1; const 2 "call"; raw 0 2! 1; const 2 "neg"; raw 0 2! 1; const 2 "join"; raw 0 2! 1
	  table 2; ask 2 @setkind 2 0
	  unary 3 neg 2; drop 3
	  list 3; call 3 2 3!; drop 3
	  binary 3 join 2 2; drop 3
	  line 3
	  const 3 "a"; const 4 "b"; binary 3 join 3! 4; show 3
	  const 3 1; binary 3 join 3! 4!; show 3
	  drop 2; drop 3
	  move 2 0; each 2
	next:
	  eachnext 2 >end 4; drop 4; jump >next
	end:
	  drop 2; drop 3; const 2 @read; const 3 nil
	more:
	  eachnext 2 >done 4; drop 4; jump >more
	done:
	  drop 2; drop 3; scope 2; list 2; defer 1 2!; line 4; leave
	  ask 2 @task 1; ask 3 @resume 2; ask 3 @resume 2; show 3
	  drop 2; drop 3
	  ask 2 @collect; show 2
	  list 3; return 3!
	proto f line 20 rest regs 5
	  ask 1 @type; line 21; drop 1; try >h 1; ask 1 @yield; endtry; drop 1; return 0!
	h:
	  drop 1; drop 2; return 0!
`

// A run that is short of ticks shows the same, up to the tick that is missing.
func TestTicksRunOut(t *testing.T) {
	in := roomy()
	in.Lines = []string{"one", "two"}
	whole := wantRun(t, "all", everyTick, in, "ok", "-")
	c := asm(everyTick)
	kinds := map[int]int{}
	for _, r := range whole.Recs {
		kinds[r.Kind]++
	}
	for _, k := range []int{impl.RecLine, impl.RecCall, impl.RecBack, impl.RecThrow, impl.RecCatch, impl.RecPrint, impl.RecTurn, impl.RecLast} {
		if kinds[k] == 0 {
			t.Errorf("no record of kind %d", k)
		}
	}
	ahead := 0
	for ticks := range whole.Ticks {
		in.Ticks = ticks
		rep := ranOf(t, c, in)
		if rep.Code != 2 || rep.Ticks != ticks || rep.Vals != nil || rep.Error != "" || rep.Trace != "" {
			t.Errorf("%d ticks: %d %d", ticks, rep.Code, rep.Ticks)
		}
		if n := len(rep.Recs); n < ahead || n > len(whole.Recs) || !slices.Equal(rep.Recs, whole.Recs[:n]) {
			t.Errorf("%d ticks: other records", ticks)
		}
		ahead = len(rep.Recs)
		if want := plainRun(c, in); !alike(rep, want) {
			t.Errorf("%d ticks: got %+v, stepped plainly %+v", ticks, rep, want)
		}
	}
	in.Ticks = whole.Ticks
	if rep := ranOf(t, c, in); !alike(rep, whole) {
		t.Error("as many ticks as are used:", rep)
	}
}

// How many ticks each thing has.
func TestTicks(t *testing.T) {
	for _, x := range []struct {
		body  string
		ticks int
	}{
		{"line 1", 1}, {"at 1", 0}, {"tick", 1},
		{"show", 1}, {"fn 0 f; list 1; call 0 0! 1!; drop 0", 1},
		{"const 0 \"a\"; at 1; binary 0 join 0 0; drop 0", 1}, {"const 0 1; const 1 1; binary 0 join 0! 1!; drop 0", 1},
		{"const 0 1; at 1; binary 0 add 0 0; drop 0", 0}, {"const 0 1; unary 0 not 0; drop 0", 0},
		{"table 0; each 0; eachnext 0 >no 2; drop 2\n no:\n drop 0; drop 1", 0},
		{"table 0; const 1 5; raw 0 1 1!; each 0; eachnext 0 >no 2; drop 2\n no:\n drop 0; drop 1", 1},
		{"const 0 @read; const 1 nil; eachnext 0 >no 2; drop 2\n no:\n drop 0; drop 1", 2},
		{"fn 0 f; const 1 nil; eachnext 0 >no 2; drop 2\n no:\n drop 0; drop 1", 2},
		{"fn 0 f; ask 1 @task 0!; ask 1 @resume 1; drop 1", 3},
		{"fn 0 f; ask 1 @task 0!; ask 1 @giveup 1; drop 1", 2},
		{"scope 0; const 0 @read; list 1; defer 0! 1!; leave", 1},
		{"ask 0 @collect; drop 0", 1},
		{"table 0; table 1; const 2 \"index\"; const 3 @read; raw 1 2! 3!; ask 0 @setkind 0 1!; index 0 0 0; drop 0", 2},
	} {
		source := "proto main regs 7\n" + x.body + "\nlist 0; return 0!"
		if strings.Contains(x.body, "fn") {
			source += "\nproto f rest regs 1\n return 0!"
		}
		if rep := wantRun(t, x.body, source, roomy(), "ok", "-"); rep.Ticks != x.ticks {
			t.Errorf("%s: %d ticks, not %d", x.body, rep.Ticks, x.ticks)
		}
	}
}
