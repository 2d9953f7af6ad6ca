package tests

import (
	"fmt"
	"strings"
	"testing"

	"loop.example/loom/impl"
)

// withKind is a text in which registers 0 and 1 hold tables whose kind has the
// fn f at a name; the body may use registers 2 to 5.
func withKind(name, body, f string) string {
	return `
		proto main regs 10
		  table 0; table 1; table 2; const 3 "` + name + `"; fn 4 f; raw 2 3! 4!
		  ask 0 @setkind 0 2; ask 1 @setkind 1 2!
		  ` + body + `
		  list 8; return 8!
		proto f rest regs 4
		  ` + f
}

// asksQuick asks that a code has one of the quick instructions that stand for several.
func asksQuick(t *testing.T, source, name string) {
	t.Helper()
	if !strings.Contains(impl.QuickListing(asm(source)), " "+name+" ") {
		t.Errorf("no %s in %s", name, source)
	}
}

// Views inside a quick instruction: the call stands at the one of the code's
// own that calls or throws, and the register between the two holds nothing.
func TestViewsInsideQuickInstructions(t *testing.T) {
	for _, x := range []struct{ quick, name, body, want string }{
		{"qwith", "add", `only n 0; const 3 5; only x 0; binary 4 add 0 3!; only y 0; drop 4`, "x=table"},
		{"qwith", "add", `only n 0; const 3 5; only x 1; binary 4 add 3! 1; only y 0; drop 4`, "x=table"},
		{"qwith", "add", `const 4 "old"; only n 4; const 3 5; only x 4; binary 4 add 0 3!; only y 4; drop 4`, "x=old"},
		{"qwith", "add", `const 4 "old"; only n 3; const 3 5; only x 3; binary 4 add 0 3!; only y 4; drop 4`, ""},
		{"qwith", "add", `name o 3 >a; a: only n 0; const 3 5; only x 0; binary 3 add 0 3!; drop 3`, "x=table"},
		{"qwith", "add", `move 4 0; name o 4; only n 0; const 3 5; only x 1; binary 3 add 4! 3!; drop 3`, "x=table"},
		{"qfield", "index", `only n 0; const 3 "k"; only x 0; index 4 0 3!; only y 0; drop 4`, "x=table"},
		{"qfield", "index", `name k 3; const 4 "old"; only n 4; const 3 "k"; only x 4; index 4 0 3!; only y 4; drop 4`, "x=old"},
		{"qfield", "index", `name k 3; only n 0; const 3 "k"; only x 1; index 3 0 3!; only y 0; drop 3`, "x=table"},
		{"qfield", "index", `name k 3; const 3 "old"; only n 3; const 3 "k"; only x 0; index 4 0 3!; only y 0; drop 4`, "x=table"},
		{"qwith", "add", `name k 3; const 3 "old"; only n 3; const 3 5; only x 0; binary 4 add 0 3!; only y 0; drop 4`, "x=table"},
		{"qtest", "lt", `only n 0; binary 3 lt 0 1; only x 0; if 3! >on; on: only y 0; at 1`, "n=table"},
		{"qtest", "eq", `const 3 "old"; only n 3; binary 3 ne 0 1; only x 0; unless 3! >on; on: only y 0; at 1`, "n=old"},
		{"qtest", "le", `move 3 1; name o 3; only n 0; binary 3 ge 0 3!; only x 0; if 3! >on; on: only y 0; at 1`, "n=table"},
	} {
		body := strings.ReplaceAll(strings.ReplaceAll(x.body, "a: ", "\na:\n"), "on: ", "\non:\n")
		source := withKind(x.name, "at 2; "+body, "const 1 @print; list 2; call 1 1! 2!; return 0!")
		asksQuick(t, source, x.quick)
		main := strings.TrimSpace("main:2 " + x.want)
		wantLooks(t, x.body, source, roomy(), `
			call f @0 | f:0 | `+main+`
			print @0 | f:0 | `+main+`
			back @0 | f:0 | `+main)
	}
}

func TestViewsOfErrorsInsideQuickInstructions(t *testing.T) {
	for _, x := range []struct{ quick, body, want string }{
		{"qwith", `only n 0; const 3 nil; only x 0; binary 4 add 0 3!; only y 0; drop 4`, "throw error 1 @0 | main:2 x=table"},
		{"qwith", `only n 1; const 3 nil; name k 3; const 4 "old"; only m 4; const 3 nil; only x 4; binary 4 add 3! 0; drop 4`, "throw error 1 @0 | main:2 x=old"},
		{"qwith", `move 4 0; name o 4; only n 1; const 3 0; only x 1; binary 4 idiv 4! 3!; drop 4`, "throw error 1 @0 | main:2 x=table"},
		{"qfield", `const 4 5; only n 0; const 3 "k"; only x 4; index 4 4 3!; drop 4`, "throw error 7 @0 | main:2 x=5"},
		{"qfield", `const 4 5; name o 4; only n 0; const 3 "k"; only x 0; index 4 4! 3!; drop 4`, "throw error 7 @0 | main:2 x=table"},
		{"qtest", `only n 0; binary 3 lt 0 1; only x 0; if 3! >on; on: only y 0; at 1`, "throw error 1 @0 | main:2 n=table"},
		{"qtest", `const 3 "old"; only n 3; binary 3 ge 0 3; only x 3; if 3! >on; on: only y 0; at 1`, "throw error 1 @0 | main:2 n=old"},
		{"qtest", `const 3 "old"; name o 3; only n 0; binary 3 gt 0 3!; only x 0; if 3! >on; on: only y 0; at 1`, "throw error 1 @0 | main:2 n=table"},
	} {
		source := withKind("none", "at 2; "+strings.ReplaceAll(x.body, "on: ", "\non:\n"), "return 0!")
		asksQuick(t, source, x.quick)
		wantLooks(t, x.body, source, roomy(), x.want)
	}
	// What is jumped to between the two is done by itself.
	source := withKind("none", `
		at 2; const 3 nil; jump >x
		name o 3
		only n 0; const 3 1
		x:
		only x 1; binary 4 add 0 3!; drop 4`, "return 0!")
	wantLooks(t, "jumped into", source, roomy(), "throw error 1 @0 | main:2 x=table")
}

// Behind a quick instruction that calls nothing the call stands where it should.
func TestViewsBehindQuickInstructions(t *testing.T) {
	source := `
		proto main regs 7
		  name a 0; name b 1; name c 2; name d 3
		  const 0 1; const 1 2; binary 2 add 0 1!; const 3 "k"; only e 0; line 1
		  only f 2; binary 1 lt 0 2; if 1! >there
		  only g 0; line 2
		there:
		  only h 0; line 3; drop 2; drop 3
		  only i 0; line 4
		  table 2; const 3 "k"; index 3 2 3!
		  only j 3; line 5
		  throw 0`
	for _, quick := range []string{"qwith", "qtest", "qfield", "qdrops"} {
		asksQuick(t, source, quick)
	}
	wantLooks(t, "behind them", source, roomy(), `
		line @0 | main:1 a=1 c=3 d=k e=1
		line @0 | main:3 a=1 c=3 d=k h=1
		line @0 | main:4 a=1 i=1
		line @0 | main:5 a=1 c=table d=nil j=nil
		throw 1 @0 | main:5 a=1 c=table d=nil`)
}

// Names whose From and To are the same, one apart, or far apart, around the instruction at which a record is made.
func TestNamesByInstructions(t *testing.T) {
	source := func(from, to int) string {
		return fmt.Sprintf(`
			proto main regs 5
			  fn 0 f; const 1 7; list 2; add 2 1!; call 2 0! 2!; return 2!
			proto f params 1 regs 1
			  name x 0 %d %d
			  line 1; line 2; at 3; line 4; throw 0`, from, to)
	}
	for from := range 6 {
		for to := from; to <= 5; to++ {
			var want strings.Builder
			for _, x := range []struct {
				told string
				at   int
			}{
				{"call f @0 | f:0", 0}, {"line @0 | f:1", 0}, {"line @0 | f:2", 1}, {"line @0 | f:4", 3}, {"throw 7 @0 | f:4", 4}, {"back error @0 | f:0", 4},
			} {
				want.WriteString(x.told)
				if from <= x.at && x.at < to {
					want.WriteString(" x=7")
				}
				want.WriteString(" | main:0\n")
			}
			wantLooks(t, fmt.Sprint(from, to), source(from, to), roomy(), want.String())
		}
	}
}

// What a register holds says whether its name is shown, and names are told in their own order.
func TestNamesByRegisters(t *testing.T) {
	wantLooks(t, "what they hold", `
		proto main rest regs 16
		  name args 0; name none 1; name list 2; name box 3; name value 4; name none2 15
		  name z 14; name same 4; name value 4; name inf 10
		  list 2; const 4 4; box 3 4; const 3 3; box 3 3!
		  const 5 nil; name nil 5; const 6 true; name true 6; const 7 "a text"; name text 7
		  const 8 -1.5; name flt 8; const 9 @print; name builtin 9; table 10; name table 10; fn 11 f; name fn 11
		  ask 12 @task 11; name task 12; const 13 nil; box 13 13!; name box2 13
		  only last 12; line 1
		  put 3 10; put 13 4!; line 2
		  list 4; return 4!
		proto f regs 1
		  list 0; return 0!`, roomy("x"), `
		line @0 | main:1 box=3 value=4 same=4 value=4 inf=table nil=nil true=true text=a text flt=-3p-1 builtin=builtin table=table fn=fn task=task box2=nil last=task
		line @0 | main:2 box=table inf=table nil=nil true=true text=a text flt=-3p-1 builtin=builtin table=table fn=fn task=task box2=4`)
	// A box that is shared shows what is in it now, in every call that has a name for it; registers of other calls are their own.
	wantLooks(t, "a box of two fns", `
		proto main regs 4
		  name v 0; name w 1
		  const 0 1; box 0 0!; const 1 8; fn 2 f; list 3; call 2 2! 3!; drop 2; line 2; list 2; return 2!
		proto f regs 2 ups l0
		  name v 0; name w 1
		  line 10; upget 0 0; line 11; const 1 2; upput 0 1!; line 12; drop 0; list 0; return 0!`, roomy(), `
		call f @0 | f:0 | main:0 v=1 w=8
		line @0 | f:10 | main:0 v=1 w=8
		line @0 | f:11 v=1 | main:0 v=1 w=8
		line @0 | f:12 v=1 | main:0 v=2 w=8
		back @0 | f:0 | main:0 v=2 w=8
		line @0 | main:2 v=2 w=8`)
	// At the end only parameters are shown: not those of the rest, whatever their registers hold by then.
	wantLooks(t, "at the end", `
		proto main regs 6
		  fn 0 f; list 1; add 1 0; add 1 0; add 1 0; call 1 0! 1!; return 1!
		proto f params 2 rest regs 5
		  name a 0; name b 1; name rest 2; name c 3
		  box 0 0!; drop 1; pick 3 2 0; drop 2; const 2 5; line 1; list 1; return 1!`, roomy(), `
		call f @0 | f:0 a=fn b=fn | main:0
		line @0 | f:1 a=fn rest=5 c=fn | main:0
		back @0 | f:0 a=fn | main:0`)
}

// RecTurn is made when the new task is running: the calls are its own.
func TestViewsOfTasks(t *testing.T) {
	wantLooks(t, "resumed, waiting, done, with an error", `
		proto main line 1 regs 8
		  name f 0; name t 1; name got 2
		  fn 0 f; ask 1 @task 0; line 2; const 3 "go"; ask 2 @resume 1 3; drop 3; line 3
		  const 3 "on"; ask 2 @resume 1 3; drop 3; line 4
		  ask 1 @task 0; const 3 nil; ask 2 @resume 1 3!; line 5
		  list 3; return 3!
		proto f line 10 params 1 regs 6
		  name how 0; name got 1
		  fn 2 g; list 3; add 3 0; at 12; call 3 2! 3!; first 1 3!; line 13
		  list 2; return 2!
		proto g line 20 params 1 regs 5
		  name x 0; name y 1
		  unless 0 >bad
		  at 21; ask 1 @yield 0; line 22; list 2; add 2 1; return 2!
		bad:
		  at 23; throw 0`, roomy(), `
		line @0 | main:2 f=fn t=task
		turn resume @1
		call f @1 | f:0 how=go
		call g @1 | g:0 x=go | f:12 how=go
		turn yield @0 | main:2 f=fn t=task
		line @0 | main:3 f=fn t=task got=true
		turn resume @1 | g:21 x=go | f:12 how=go
		line @1 | g:22 x=go y=on | f:12 how=go
		back @1 | g:0 x=go | f:12 how=go
		line @1 | f:13 how=go got=on
		back @1 | f:0 how=go
		turn done @0 | main:3 f=fn t=task got=true
		line @0 | main:4 f=fn t=task got=true
		turn resume @2
		call f @2 | f:0 how=nil
		call g @2 | g:0 x=nil | f:12 how=nil
		throw nil @2 | g:23 x=nil | f:12 how=nil
		back error @2 | g:0 x=nil | f:12 how=nil
		back error @2 | f:0 how=nil
		turn error @0 | main:4 f=fn t=task got=true
		line @0 | main:5 f=fn t=task got=false`)
	// A call too many for a new task is thrown in it, where no call is open.
	in := withDepth(1)
	wantLooks(t, "too deep", `
		proto main regs 5
		  name t 0
		  fn 0 f; ask 0 @task 0!; at 2; ask 1 @resume 0; drop 1; list 1; return 1!
		proto f regs 1
		  list 0; return 0!`, in, `
		turn resume @1
		throw error 8 @1
		turn error @0 | main:2 t=task`)
	// It waits inside of a defer, while an error is on its way; then it is given up.
	wantLooks(t, "given up while it is being left", `
		proto main regs 6
		  fn 0 f; ask 1 @task 0!; ask 0 @resume 1; ask 0 @giveup 1; list 0; return 0!
		proto f regs 6
		  name a 0; name b 1; name c 2
		  const 0 1; const 1 2; const 2 3; scope 1
		  const 3 @print; list 4; add 4 1; line 4; defer 3! 4!
		  const 3 @yield; list 4; line 5; defer 3! 4!
		  at 6; throw 2`, roomy(), `
		turn resume @1
		call f @1 | f:0
		line @1 | f:4 a=1 b=2 c=3
		line @1 | f:5 a=1 b=2 c=3
		throw 3 @1 | f:6 a=1 b=2 c=3
		turn yield @0 | main:0
		turn giveup @1 | f:5 a=1
		print 2 @1 | f:4 a=1
		back gone @1 | f:0
		turn gone @0 | main:0`)
}

// RecLast and what catches the error of a last word stand at the instruction that collects.
func TestViewsOfLastWords(t *testing.T) {
	wantLooks(t, "last words", `
		proto main line 1 regs 8
		  name kind 0; name t 1; name w 2
		  table 0; fn 1 f; const 2 "last"; raw 0 2! 1!
		  table 1; ask 1 @setkind 1 0; drop 1; const 2 9
		  at 2
		  const 3 @collect; list 4; only here 2; call 3 3! 4!; only there 2; first 3 3!; line 3; list 4; return 4!
		proto f line 10 params 1 regs 5
		  name me 0; name v 1
		  const 1 4; line 11; throw 1`, roomy(), `
		last @0 | main:2 kind=table w=9 here=9
		call f @0 | f:0 me=table | main:2 kind=table w=9 here=9
		line @0 | f:11 me=table v=4 | main:2 kind=table w=9 here=9
		throw 4 @0 | f:11 me=table v=4 | main:2 kind=table w=9 here=9
		back error @0 | f:0 me=table | main:2 kind=table w=9 here=9
		catch 4 @0 | main:2 kind=table w=9 here=9
		line @0 | main:3 kind=table w=9`)
}

// What is called by other instructions: handlers, turns of IEachNext, IEach, whose place holds nothing meanwhile.
func TestViewsOfHandlers(t *testing.T) {
	const f = "name x 0; const 1 @print; list 2; call 1 1! 2!; list 1; return 1!"
	for _, x := range []struct{ name, body, main string }{
		{"neg", "only h 0; unary 3 neg 0; drop 3", "h=table"},
		{"setindex", `const 3 1; name k 3; name v 4; const 4 2; only h 0; set 0 3! 4; drop 4`, "v=2 h=table"},
		{"join", "const 3 5; name k 3; only h 3; binary 3 join 3 0; drop 3", "k=5 h=5"},
		{"call", "list 3; name l 3; only h 0; call 3 0 3!; drop 3", "h=table"},
		{"len", "only h 1; unary 3 len 1; drop 3", "h=table"},
	} {
		source := withKind(x.name, "at 2; "+x.body, f)
		wantLooks(t, x.name, source, roomy(), `
			call f @0 | f:0 | main:2 `+x.main+`
			print @0 | f:0 | main:2 `+x.main+`
			back @0 | f:0 | main:2 `+x.main)
	}
	// What the handler gives is no fn: it stands in the place when that is thrown.
	source := withKind("each", "at 2; name p 3; name q 4; only o 0; move 3 0; only e 3; each 3; drop 3; drop 4", "const 1 7; list 2; add 2 1!; return 2!")
	wantLooks(t, "each", source, roomy(), `
		call f @0 | f:0 | main:2
		back @0 | f:0 | main:2
		throw error 1 @0 | main:2 p=7 e=7`)
	wantLooks(t, "turns", `
		proto main regs 6
		  name p 0; name q 1; name l 2
		  fn 0 f; each 0
		next:
		  only n 0; eachnext 0 >end 2; first 2 2!; line 2; drop 2; jump >next
		end:
		  line 3; list 2; return 2!
		proto f regs 3 ups
		  const 0 1; list 1; return 1!`, roomy(), `
		call f @0 | f:0 | main:0 p=fn q=nil n=fn
		back @0 | f:0 | main:0 p=fn q=nil n=fn
		line @0 | main:3 p=fn q=nil`)
}
