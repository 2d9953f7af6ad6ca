package tests

import (
	"fmt"
	"strings"
	"testing"
)

// What runs show, continued: builtins, loops, lists, variables, guards and what lives.

// mainOf is a text with these instructions, which ends with an empty list; the fn f, if it is made, gives back what it is given.
func mainOf(body string) string {
	source := "proto main regs 9\n" + body + "\nlist 0; return 0!\n"
	if strings.Contains(body, "fn ") {
		source += "proto f rest regs 1\n return 0!"
	}
	return source
}

func TestBuiltins(t *testing.T) {
	for _, x := range []struct{ body, want string }{
		{`ask 0 @type; show 0`, "nil"}, {`const 0 true; ask 0 @type 0; show 0`, "bool"}, {`const 0 1; ask 0 @type 0; show 0`, "int"},
		{`const 0 1.0; ask 0 @type 0; show 0`, "float"}, {`const 0 "x"; ask 0 @type 0; show 0`, "str"}, {`table 0; ask 0 @type 0; show 0`, "table"},
		{`fn 0 f; ask 0 @type 0; show 0`, "fn"}, {`const 0 @type; ask 0 @type 0; show 0`, "fn"}, {`fn 0 f; ask 0 @task 0; ask 0 @type 0; show 0`, "task"},
		{`ask 0 @text; ask 0 @type 0; show 0`, "str"}, {`const 0 1.5; ask 0 @text 0; show 0`, "3p-1"}, {`const 0 @print; ask 0 @text 0; show 0`, "builtin"},
		{`fn 0 f; ask 0 @task 0; ask 0 @text 0; show 0`, "task"}, {`fn 0 f; show 0`, "fn"}, {`table 0; show 0 0`, "table table"},
		{`show`, ""}, {`const 0 nil; const 1 ""; const 2 -0.0; show 0 1 2`, "nil  -0p0"},
		{`ask 0 @read; ask 1 @read; ask 2 @read; ask 3 @read; show 0 1 2 3`, "one  nil nil"},
		{`table 0; table 1; ask 2 @setkind 0 1; binary 3 eq 2 0; ask 4 @kind 0; binary 4 eq 4! 1; ask 5 @kind 1; show 3 4 5`, "true true nil"},
		{`table 0; ask 1 @setkind 0 0; ask 1 @kind 0; binary 1 eq 1! 0; ask 2 @setkind 0; ask 2 @kind 0; show 1 2`, "true nil"},
		{`const 0 5; ask 1 @kind 0; ask 2 @kind; show 1 2`, "nil nil"},
		{`table 0; const 1 1; const 2 1.0; raw 0 2! 1; ask 2 @rawget 0 1; ask 3 @rawget 0; show 2 3`, "1 nil"},
		{`table 0; const 1 1; ask 2 @rawset 0 1 1; index 3 0 1; ask 4 @rawset 0 1; index 4 0 1; show 2 3 4`, "nil 1 nil"},
		{`fn 0 f; ask 1 @task 0; ask 1 @status 1; show 1`, "new"},
		{`ask 0 @cells; show 0`, "0"}, {`table 0; const 1 1; raw 0 1 1; fn 1 f; ask 2 @task 1; ask 3 @cells; show 3`, "4"},
		{`fn 0 f; ask 1 @task 0; drop 0; ask 0 @cells; ask 2 @giveup 1; ask 2 @cells; show 0 2`, "2 1"},
	} {
		in := roomy()
		in.Lines = []string{"one", ""}
		wantPrints(t, x.body, mainOf(x.body), in, "ok", x.want)
	}
}

func TestBuiltinsWithWrongArguments(t *testing.T) {
	for _, x := range []struct {
		body string
		code int
	}{
		{`ask 0 @setkind`, 12}, {`const 0 1; ask 0 @setkind 0`, 12}, {`table 0; const 1 1; ask 0 @setkind 0 1`, 12}, {`table 0; const 1 nil; ask 0 @setkind 1 0`, 12},
		{`ask 0 @rawget`, 12}, {`const 0 "x"; ask 0 @rawget 0`, 12}, {`const 0 "x"; ask 0 @rawset 0 0 0`, 12}, {`table 0; ask 0 @rawset 0`, 5},
		{`table 0; const 2 0; const 3 0; binary 1 div 2! 3!; ask 0 @rawset 0 1 0`, 5}, {`table 0; const 2 0; const 3 0; binary 1 div 2! 3!; set 0 1 1`, 5},
		{`ask 0 @task`, 12}, {`const 0 @print; ask 0 @task 0`, 12}, {`table 0; ask 0 @task 0`, 12},
		{`ask 0 @resume`, 12}, {`fn 0 f; ask 0 @resume 0`, 12}, {`ask 0 @giveup`, 12}, {`ask 0 @status`, 12},
		{`fn 0 f; ask 0 @task 0; ask 1 @giveup 0; ask 1 @giveup 0`, 10}, {`fn 0 f; ask 0 @task 0; ask 1 @resume 0; ask 1 @resume 0`, 10},
		{`ask 0 @yield`, 10},
		{`const 0 1; list 1; call 0 0 1`, 6}, {`table 0; list 1; call 0 0 1`, 6}, {`fn 0 f; ask 0 @task 0; list 1; call 0 0 1`, 6},
	} {
		wantRun(t, x.body, mainOf("at 7;"+x.body), roomy(), fmt.Sprintf("error error %d @ main:7", x.code), "-")
	}
}

// counted is a text that counts from one value to another by a step, and tells each.
func counted(first, last, step string) string {
	return mainOf(fmt.Sprintf(`
		const 0 %s; const 1 %s; const 2 %s; at 5; for 0
		test:
		  fortest 0 >end; tick; show 0; fornext 0 >test
		end:
		  drop 0`, first, last, step))
}

func TestCounting(t *testing.T) {
	for _, x := range []struct {
		first, last, step string
		prints            []string
	}{
		{"1", "3", "1", []string{"1", "2", "3"}}, {"3", "1", "-1", []string{"3", "2", "1"}}, {"1", "0", "1", nil}, {"0", "1", "-1", nil},
		{"1", "4", "2", []string{"1", "3"}}, {"1", "2", "0.5", []string{"1p0", "3p-1", "1p1"}}, {"1.0", "2", "1", []string{"1p0", "1p1"}},
		{"9223372036854775806", "9223372036854775807", "1", []string{"9223372036854775806", "9223372036854775807"}},
		{"-9223372036854775807", "-9223372036854775808", "-1", []string{"-9223372036854775807", "-9223372036854775808"}},
		{"9007199254740993", "9007199254740993.0", "1", []string{"1p53"}},
	} {
		// 1p53 and 1 more is 1p53 again: the ticks run out.
		end, in := "ok", roomy()
		if x.prints != nil && x.prints[0] == "1p53" {
			end, in = "out", withTicks(3)
		}
		wantPrints(t, fmt.Sprint(x), counted(x.first, x.last, x.step), in, end, x.prints...)
	}
	for _, x := range []struct{ first, last, step, code string }{
		{"nil", "1", "1", "1"}, {"1", `"2"`, "1", "1"}, {"1", "1", "true", "1"}, {"1", "1", "0", "14"}, {"1", "1", "0.0", "14"}, {"1", "1", "-0.0", "14"}, {"nil", "1", "0", "1"},
	} {
		wantPrints(t, fmt.Sprint(x), counted(x.first, x.last, x.step), roomy(), "error error "+x.code+" @ main:5")
	}
	wantPrints(t, "a step that is no number", mainOf(`const 0 0; const 1 0; const 3 5; binary 2 div 0 1; at 5; for 0; show 3`), roomy(), "error error 14 @ main:5")
	// With an error the places stay as they were.
	wantPrints(t, "they stay", mainOf(`
		const 0 1; const 1 0.5; const 2 0; try >h 3; for 0; endtry; jump >end
		h:
		  show 0 1 2; drop 3; drop 4
		end:
		  drop 0`), roomy(), "ok", "1 1p-1 0")
}

// fortest and fornext may stand without a for ahead of them.
func TestCountingFromAnything(t *testing.T) {
	for _, x := range []struct{ first, last, step, test, next string }{
		{"nil", "1", "1", "there", "nil"}, {`"a"`, `"b"`, "nil", "here", "a"}, {`"b"`, `"a"`, "nil", "there", "b"}, {`"a"`, `"b"`, "-1", "there", "a"},
		{"1", "1", "0", "here", "1"}, {"2", "1", "0", "there", "2"}, {"1", "2", "-0.5", "there", "+1p-1"}, {"2", "1", "-0.5", "here", "+3p-1"},
		{"1", "2", "@print", "here", "1"}, {"1", "2", "1.0", "here", "+1p1"}, {"9223372036854775807", "0", "1", "there", "9223372036854775807"},
		{"9223372036854775807", "0", "1.0", "there", "+1p63"}, {"-9223372036854775808", "0", "-1", "there", "-9223372036854775808"},
	} {
		goes := strings.HasPrefix(x.next, "+")
		next := strings.TrimPrefix(x.next, "+")
		prints := []string{x.test, fmt.Sprint(goes) + " " + next}
		wantPrints(t, fmt.Sprint(x), mainOf(fmt.Sprintf(`
			const 0 %s; const 1 %s; const 2 %s; const 3 "there"
			fortest 0 >there
			const 3 "here"
			there:
			  show 3; const 3 true; fornext 0 >on; const 3 false
			on:
			  show 3 0; drop 0`, x.first, x.last, x.step)), roomy(), "ok", prints...)
	}
}

// through is a text that goes through what register 0 holds behind begin, tells what each turn gives, and does more at each.
func through(begin, more string) string {
	return "proto main regs 9\n" + begin + `
		  at 5; each 0
		next:
		  eachnext 0 >end 2
		  pick 3 2 0; pick 4 2 1; drop 2; show 3 4
		  ` + more + `
		  drop 3; drop 4; jump >next
		end:
		  list 2; return 2!
		`
}

func TestGoingThrough(t *testing.T) {
	const abc = `table 0; const 1 1; const 2 "a"; raw 0 2! 1; const 2 "b"; raw 0 2! 1; const 2 "c"; raw 0 2! 1; drop 1;`
	for _, x := range []struct {
		name, source, end string
		prints            []string
	}{
		{"pairs", through(abc, ""), "ok", []string{"a 1", "b 1", "c 1"}},
		{"none", through("table 0", ""), "ok", nil},
		{"values that change", through(abc, `const 4 2; const 5 "c"; set 0 5! 4`), "ok", []string{"a 1", "b 1", "c 2"}},
		{"keys that go", through(abc, `const 4 nil; const 5 "b"; set 0 5! 4`), "ok", []string{"a 1", "c 1"}},
		{"keys that come", through(abc, `const 5 "d"; set 0 5! 4`), "ok", []string{"a 1", "b 1", "c 1", "d 1"}},
		{"keys that go and come again", through(abc, `const 5 "d"; binary 5 eq 5! 3; if 5! >no; const 4 nil; const 5 "a"; set 0 5 4!; const 4 2; const 6 "d"; set 0 6! 4; drop 5`+"\n no:\n"), "ok", []string{"a 1", "b 1", "c 1", "d 2"}},
		{"a builtin", through("const 0 @read", ""), "ok", []string{"one nil", " nil"}},
		{"a number", through("const 0 5", ""), "error error 1 @ main:5", nil},
		{"nil", through("const 0 nil", ""), "error error 1 @ main:5", nil},
		{"a task", through("fn 0 f; ask 0 @task 0", "") + "proto f regs 1\n list 0; return 0!", "error error 1 @ main:5", nil},
		{"a fn", through("const 0 3; box 1 0!; fn 0 f; drop 1", "") + "proto f regs 4 ups l1\n upget 0 0; const 1 1; binary 0 sub 0! 1!; upput 0 0; list 1; const 2 0; binary 3 gt 0 2!; unless 3! >no; add 1 0; add 1 0\n no:\n return 1!",
			"ok", []string{"2 2", "1 1"}},
		{"a fn that fails", through("fn 0 f", "") + "proto f rest regs 2\n const 1 6; throw 1!", "error 6 @ f:0 main:5", nil},
		{"an error in the turn", through(abc, "throw 4"), "error 1 @ main:5", []string{"a 1"}},
	} {
		in := roomy()
		in.Lines = []string{"one", ""}
		wantPrints(t, x.name, x.source, in, x.end, x.prints...)
	}
	for _, x := range []struct{ a, b, end string }{
		{"const 0 5", "const 1 0", "error error 7 @ main:4"}, {"const 0 5", "const 1 nil", "error error 6 @ main:4"}, {"table 0", "const 1 7", "ok"}, {"table 0", "const 1 0.5", "error error 6 @ main:4"},
		{"table 0; const 1 1; raw 0 1 1; drop 1", "const 1 1", "ok"}, {"table 0; const 1 1; raw 0 1 1; drop 1", "const 1 0", "ok 1 1"}, {"table 0; const 1 1; raw 0 1 1; drop 1", "const 1 -9223372036854775808", "ok 1 1"},
	} {
		source := "proto main regs 5\n at 4;" + x.a + ";" + x.b + "\n eachnext 0 >end 2; return 2!\n end:\n list 2; return 2!"
		wantRun(t, fmt.Sprint(x), source, roomy(), x.end, "-")
	}
}

// A handler says what is gone through; what it gives is not asked for one of its own.
func TestGoingThroughByAHandler(t *testing.T) {
	by := func(gives string) string {
		return through(`table 0; table 1; const 2 "each"; fn 3 f; raw 1 2! 3!; ask 0 @setkind 0 1!`, "") +
			"proto f params 1 regs 5\n show 0; " + gives + "; list 2; add 2 1; return 2!"
	}
	in := roomy()
	in.Lines = []string{"one"}
	wantPrints(t, "a builtin", by("const 1 @read"), in, "ok", "table", "one nil")
	wantPrints(t, "the table", by("move 1 0"), in, "error error 1 @ main:5", "table")
	wantPrints(t, "another table", by("table 1"), in, "error error 1 @ main:5", "table")
	wantPrints(t, "nil", by("const 1 nil"), in, "error error 1 @ main:5", "table")
	wantPrints(t, "an error", by("const 1 6; throw 1"), in, "error 6 @ f:0 main:5", "table")
}

func TestLists(t *testing.T) {
	for _, x := range []struct{ body, want string }{
		{`list 0; first 1 0; pick 2 0 0; show 1 2`, "nil nil"},
		{`list 0; const 1 7; add 0 1; const 1 8; add 0 1!; pick 1 0 1; pick 2 0 2; pick 3 0 250; show 1 2 3`, "8 nil nil"},
		{`list 0; const 1 7; add 0 1; copy 2 0; const 1 8; add 0 1; pick 3 2 1; pick 4 0 1; show 3 4`, "nil 8"},
		{`list 0; const 1 7; add 0 1; copy 2 0; const 1 8; add 2 1; const 1 9; add 0 1; pick 3 2 1; pick 4 0 1; show 3 4`, "8 9"},
		{`list 0; const 1 7; add 0 1; join 0 0; join 0 0; pick 1 0 3; pick 2 0 4; show 1 2`, "7 nil"},
		{`list 0; const 1 7; add 0 1; list 2; const 1 8; add 2 1; join 0 2!; pick 1 0 1; first 2 0; show 1 2`, "8 7"},
		{`fn 0 f; list 1; const 2 7; add 1 2; call 3 0 1; add 1 2; add 3 0; pick 4 1 1; pick 5 3 1; show 4 5`, "7 fn"},
	} {
		wantPrints(t, x.body, strings.Replace(mainOf(x.body), "list 0; return 0!", "drop 0; list 0; return 0!", 1), roomy(), "ok", x.want)
	}
}

func TestVariables(t *testing.T) {
	wantPrints(t, "shared by fns and the text", `
		proto main regs 9
		  const 0 1; box 0 0!; const 1 5; box 1 1!
		  fn 2 f; list 3; call 3 2 3!; first 3 3!
		  list 4; call 4 3 4!; drop 4; list 4; call 4 3 4!; drop 4
		  get 4 0; get 5 1; show 4 5
		  const 4 9; put 1 4!; list 4; call 4 3 4!; drop 4
		  list 4; return 4!
		proto f regs 4 ups l0 l1
		  const 0 100; box 0 0!; fn 1 g; drop 0; list 2; add 2 1!; return 2!
		proto g regs 6 ups u1 l0 u0
		  upget 0 0; upget 1 1; upget 2 2; show 0 1 2
		  const 3 1; binary 0 add 0! 3; upput 0 0!; binary 1 add 1! 3!; upput 1 1!
		  drop 2; list 0; return 0!`, roomy(), "ok", "5 100 1", "6 101 1", "1 7", "9 102 1")
	wantPrints(t, "moved and taken", mainOf(`
		const 0 1; move 1 0; move 0 1; move 1 1!; show 0 1
		const 2 "x"; move 2 2!; show 2!`), roomy(), "ok", "1 1", "x")
}

func TestGuards(t *testing.T) {
	// An error in a defer, while a return goes on.
	wantRun(t, "a return that an error takes the place of", `
		proto main regs 5
		  line 1
		  fn 0 f; try >h 1; list 1; call 1 0 1!; throw 0
		h:
		  list 3; add 3 1!; add 3 2!; return 3!
		proto f line 10 regs 3
		  line 11; scope 0
		  const 0 nil; list 1; defer 0! 1!
		  line 12; const 0 @print; list 1; const 2 "kept"; add 1 2!; defer 0! 1!
		  try >no 0
		  line 13; list 0; return 0!
		no:
		  throw 0`, roomy(), "ok table f:11 main:1", `
		line 0 0 1
		call 0 1 10 f
		line 0 1 11
		line 0 1 12
		line 0 1 13
		print 0 1 12 kept
		throw 0 1 11 error 6
		back 0 1 0 error
		catch 0 0 1 error 6`)
	// An inner guard catches what an inner defer throws; the outer one catches what the handler throws.
	wantRun(t, "guards in guards", `
		proto main regs 6
		  line 1; try >outer 0
		  line 2; try >inner 0
		  line 3; scope 0; const 0 @yield; list 1; defer 0! 1!; const 0 "a"; throw 0
		inner:
		  const 2 "code"; index 2 0 2!; show 2; throw 2
		outer:
		  show 0 1; list 2; return 2!`, roomy(), "ok", `
		line 0 0 1
		line 0 0 2
		line 0 0 3
		throw 0 0 3 a
		throw 0 0 3 error 10
		catch 0 0 2 error 10
		print 0 0 2 10
		throw 0 0 2 10
		catch 0 0 1 10
		print 0 0 1 10 main:2`)
	// The line of a guard is that at which it was put on.
	wantRun(t, "lines", `
		proto main regs 5
		  at 1; try >h 0; at 2; const 0 5; scope 0; at 3; const 1 @print; list 2; defer 1! 2!; at 4; keep 1; leave; at 5; show 0; throw 0
		h:
		  show 0; list 2; return 2!`, roomy(), "ok", `
		print 0 0 3
		print 0 0 5 5
		throw 0 0 5 5
		catch 0 0 1 5
		print 0 0 1 5`)
	wantRun(t, "a guard that is taken off", `
		proto main regs 5
		  try >h 0; try >no 0; endtry; const 0 5; throw 0!
		no:
		  throw 1
		h:
		  list 2; add 2 0!; return 2!`, roomy(), "ok 5", "throw 0 0 0 5\n catch 0 0 0 5")
}

func TestWeakTables(t *testing.T) {
	// The table in 0 holds: itself at 1, a lost table at 2; by a lost table 3, by the table in 1 a lost one, whose own pair names that in 1.
	weakly := func(how string) string {
		return mainOf(`
			table 0; table 1
			table 2; const 3 "weak"; const 4 "` + how + `"; raw 2 3! 4!; ask 0 @setkind 0 2!
			const 2 1; raw 0 2! 0; const 2 2; table 3; raw 0 2! 3!
			table 2; const 3 3; raw 0 2! 3!; table 2; const 3 "in"; raw 2 3! 1; raw 0 1 2!
			ask 2 @cells; ask 3 @collect; ask 4 @collect; show 2 3 4
			drop 2; drop 3; drop 4; move 5 0; each 5
			next:
			  eachnext 5 >end 2; pick 3 2 0; pick 4 2 1; drop 2; show 3 4; drop 3; drop 4; jump >next
			end:
			  drop 0`)
	}
	all := []string{"1 table", "2 table", "table 3", "table table"}
	for _, x := range []struct {
		how, cells string
		left       []string
	}{
		{"", "12 12 12", all}, {"x", "12 12 12", all},
		{"k", "11 10 10", []string{all[0], all[1], all[3]}},
		{"v", "9 7 7", []string{all[0], all[2]}},
		{"kv", "8 5 5", []string{all[0]}},
		{"vk", "8 5 5", []string{all[0]}},
	} {
		wantPrints(t, "weak "+x.how, weakly(x.how), roomy(), "ok", append([]string{x.cells}, x.left...)...)
	}
	// A key that is reached by its pair alone goes with it, and is told its last word at the next collect.
	wantRun(t, "a key that goes with its value", `
		proto main regs 9
		  table 0; table 1; const 2 "weak"; const 3 "v"; raw 1 2! 3!; ask 0 @setkind 0 1!
		  table 1; const 2 "last"; fn 3 f; raw 1 2! 3!; table 2; ask 2 @setkind 2! 1; table 3; raw 0 2! 3!
		  ask 2 @cells; show 2; ask 2 @collect; show 2; ask 2 @collect; show 2
		  list 2; return 2!
		proto f rest regs 1
		  return 0!`, roomy(), "ok", `
		print 0 0 0 8
		print 0 0 0 6
		last 0 0 0
		call 0 1 0 f
		back 0 1 0
		print 0 0 0 6`)
	// Weak keys that name each other's values: only what is reached by other ways counts.
	wantPrints(t, "keys by way of values", `
		proto main regs 9
		  table 0; table 1; const 2 "weak"; const 3 "k"; raw 1 2! 3!; ask 0 @setkind 0 1!
		  table 1; table 2; table 3; table 4
		  raw 0 2 3; raw 0 1 2; raw 0 4 4; drop 2; drop 3; drop 4
		  ask 2 @collect; show 2; drop 1; ask 2 @collect; show 2
		  list 2; return 2!`, roomy(), "ok", "8", "3")
}

// Last words, told in the order of making; what they make due is told in another round.
func TestLastWords(t *testing.T) {
	const kind = `
		proto main regs 9
		  table 0; const 1 nil; box 1 1!; fn 2 f; const 3 "last"; raw 0 3! 2!
		  `
	const named = `table 2; const 3 "name"; const 4 "%s"; raw 2 3! 4!; ask 2 @setkind 2! 0;`
	const word = `
		  list 2; return 2!
		proto f params 1 regs 6 ups l1
		  const 1 "name"; index 1 0 1!; show 1; drop 1
		  `
	one, two := fmt.Sprintf(named, "one"), fmt.Sprintf(named, "two")
	const makes = `
		  upget 1 0; const 2 nil; upput 0 2!; unless 1 >no
		  table 2; const 3 "name"; raw 2 3 3!; ask 3 @setkind 2! 1; drop 3
		no:
		  drop 1
		  `
	for _, x := range []struct {
		name, main, word string
		prints           []string
	}{
		{"in the order of making", one + `drop 2;` + two + `drop 2; ask 2 @collect; show 2; ask 2 @collect; show 2`, "", []string{"one", "two", "4", "4"}},
		{"one that is reached is not told", one + `drop 2;` + two + `ask 3 @collect; show 3; drop 2; ask 3 @collect; show 3`, "", []string{"one", "6", "two", "4"}},
		{"both at once, whichever holds the other", one + `move 5 2!;` + two + `const 3 "holds"; raw 2 3! 5!; drop 2; ask 2 @collect; show 2`, "", []string{"one", "two", "4"}},
		{"one lets go of another", one + `put 1 2!;` + two + `drop 2; ask 2 @collect; show 2`, `const 1 nil; upput 0 1!;`, []string{"two", "one", "4"}},
		{"kept by its word, and told no more", one + `drop 2; ask 2 @collect; show 2; get 2 1; const 3 "name"; index 3 2 3!; show 3; const 2 nil; put 1 2; ask 2 @collect; show 2`, `upput 0 0;`, []string{"one", "6", "one", "4"}},
		{"told again when its kind is set again", one + `drop 2; ask 2 @collect; get 2 1; ask 2 @setkind 2 0; const 2 nil; put 1 2; ask 2 @collect; show 2`, `upput 0 0;`, []string{"one", "one", "6"}},
		{"it collects itself", one + `drop 2;` + two + `drop 2; ask 2 @collect; show 2`, `ask 1 @collect; show 1; drop 1;`, []string{"one", "8", "two", "8", "4"}},
		{"it makes another one", one + `drop 2; put 1 0; ask 2 @collect; show 2`, makes, []string{"one", "name", "4"}},
		{"its kind has none any more", one + `drop 2; const 3 "last"; const 4 nil; set 0 3! 4!; ask 2 @collect; show 2`, "", []string{"1"}},
		{"its kind has another one", one + `drop 2; const 3 "last"; const 4 @print; set 0 3! 4!; ask 2 @collect; show 2`, "", []string{"2"}},
		{"it is of another kind by now", one + `ask 3 @setkind 2!; drop 3; ask 2 @collect; show 2`, "", []string{"4"}},
	} {
		wantPrints(t, x.name, kind+x.main+word+x.word+"list 1; return 1!", roomy(), "ok", x.prints...)
	}
	// A kind that had no last word when it was set.
	wantPrints(t, "wanted too late", `
		proto main regs 9
		  table 0; table 1; ask 1 @setkind 1! 0; const 2 "last"; fn 3 f; raw 0 2! 3!; drop 1; ask 1 @collect; show 1
		  list 2; return 2!
		proto f rest regs 1
		  return 0!`, roomy(), "ok", "3")
}

// What is reached while nothing but a call holds it: kept for defers, returned, on its way, in a task that is reached, dropped.
func TestWhatIsReached(t *testing.T) {
	for _, x := range []struct {
		name, source string
		prints       []string
	}{
		{"kept for a defer", mainOf(`scope 0; const 0 @print; list 1; table 2; add 1 2!; defer 0! 1!; ask 0 @cells; show 0; drop 0; leave`), []string{"1", "table"}},
		{"the arguments of the builtin at work", mainOf(`table 0; ask 1 @cells 0!; show 1`), []string{"0"}},
		{"a list that stays", mainOf(`list 0; table 1; add 0 1!; const 2 @cells; call 2 2! 0; first 2 2!; show 2`), []string{"1"}},
		{"the defer at work", `
			proto main regs 9
			  scope 0; fn 0 g; list 1; table 2; add 1 2!; table 2; add 1 2!; defer 0! 1!; leave; ask 0 @cells; show 0
			  list 0; return 0!
			proto g params 1 regs 4
			  ask 1 @cells; show 1; list 2; return 2!`, []string{"2", "0"}},
		{"returned", `
			proto main regs 9
			  fn 0 f; list 1; call 1 0! 1!; list 2; return 2!
			proto f regs 5
			  scope 0; const 0 @print; list 1; defer 0! 1!; fn 0 g; list 1; defer 0! 1!
			  list 0; table 1; add 0 1!; return 0!
			proto g regs 4
			  ask 1 @cells; show 1; list 2; return 2!`, []string{"3", ""}},
		{"on its way", `
			proto main regs 9
			  try >h 0; fn 0 f; list 1; call 1 0 1!; throw 0
			h:
			  list 2; return 2!
			proto f regs 5
			  scope 0; fn 0 g; list 1; defer 0! 1!; table 1; throw 1!
			proto g regs 4
			  ask 1 @cells; show 1; list 2; return 2!`, []string{"3"}},
		{"a task that is new", mainOf(`fn 0 f; ask 1 @task 0!; ask 0 @cells; show 0; drop 1; ask 0 @cells; show 0`), []string{"2", "0"}},
		{"a task that waits", `
			proto main regs 9
			  fn 0 f; ask 1 @task 0!; table 0; ask 2 @resume 1 0!; drop 2
			  ask 0 @cells; show 0; ask 0 @resume 1; ask 0 @cells; show 0; drop 1; ask 0 @cells; show 0
			  list 0; return 0!
			proto f params 1 regs 4
			  box 1 0!; ask 0 @yield; list 0; return 0!`, []string{"3", "1", "0"}},
		{"those that wait for it", `
			proto main regs 9
			  table 3; fn 0 f; ask 1 @task 0!; ask 2 @resume 1!; list 0; return 0!
			proto f params 1 regs 5
			  ask 1 @cells; show 1; list 2; return 2!`, []string{"3"}},
		{"what was dropped", `
			proto main regs 9
			  fn 0 f; ask 1 @task 0!; ask 0 @resume 1; ask 0 @giveup 1; ask 0 @cells; show 0; list 0; return 0!
			proto f regs 5
			  scope 0; fn 0 g; list 1; defer 0! 1!; const 0 nil; list 1; defer 0! 1!; ask 0 @yield; throw 0
			proto g regs 4
			  ask 1 @cells; show 1; list 2; return 2!`, []string{"6", "1"}},
	} {
		wantPrints(t, x.name, x.source, roomy(), "ok", x.prints...)
	}
}
