package tests

import (
	"fmt"
	"strings"
	"testing"
)

// What runs show, written out: 4.1 to 4.9 by their reports.

func TestRecordsOfCalls(t *testing.T) {
	rep := wantRun(t, "calls", `
		proto main line 1 rest regs 6
		  line 2
		  fn 1 f; call 0 1! 0!
		  at 3
		  return 0!
		proto f line 10 params 1 rest regs 5
		  line 11
		  show 0
		  fn 2 _g; call 1 2! 1!
		  return 1!
		proto _g line 20 params 2 regs 3
		  list 2; add 2 1!; add 2 0!; return 2!
		`, roomy("a", "b", "c"), "ok c b", `
		line 0 0 2
		call 0 1 10 f
		line 0 1 11
		print 0 1 11 a
		call 0 2 20
		back 0 2 0
		back 0 1 0`)
	if rep.Ticks != 5 || rep.Made != 2 || rep.Error != "" || rep.Trace != "" {
		t.Errorf("%+v", rep)
	}
}

func TestRecordsOfErrors(t *testing.T) {
	rep := wantRun(t, "caught, then not", `
		proto main line 1 regs 6
		  line 2
		  try >h 1
		  line 3
		  fn 1 f; list 2; call 1 1! 2!
		  endtry; drop 1; jump >end
		h:
		  show 1 2
		  throw 1
		end:
		  list 1; return 1!
		proto f line 10 regs 3
		  line 11
		  fn 0 _g; list 1; call 0 0! 1!; return 0!
		proto _g line 20 regs 1
		  line 21
		  table 0; throw 0!`, roomy(), "error table @ main:2", `
		line 0 0 2
		line 0 0 3
		call 0 1 10 f
		line 0 1 11
		call 0 2 20
		line 0 2 21
		throw 0 2 21 table
		back 0 2 0 error
		back 0 1 0 error
		catch 0 0 2 table
		print 0 0 2 table fn:21 f:11 main:3
		throw 0 0 2 table`)
	if rep.Code != 1 || rep.Ticks != 7 || rep.Made != 3 {
		t.Errorf("%+v", rep)
	}
	wantRun(t, "as it is told", `
		proto main regs 5
		  try >h 0
		  table 0; const 1 "code"; const 2 -7; raw 0 1! 2!; throw 0!
		h:
		  const 2 "code"; const 3 1.5; set 0 2! 3!
		  drop 1; try >h2 1
		  throw 0
		h2:
		  throw 2!`, roomy(), "error main:0 @ main:0", `
		throw 0 0 0 error -7
		catch 0 0 0 error -7
		throw 0 0 0 table
		catch 0 0 0 table
		throw 0 0 0 main:0`)
}

func TestRecordsOfTasks(t *testing.T) {
	wantRun(t, "turns", `
		proto main regs 7
		  line 1
		  fn 0 f; ask 1 @task 0; ask 2 @task 0!
		  ask 0 @status 1; show 0!
		  const 0 5; ask 3 @resume 1 0!; show 3!
		  ask 0 @status 1; show 0!
		  ask 3 @giveup 2; show 3!
		  ask 0 @status 2; show 0!
		  line 2
		  const 0 6; ask 3 @resume 1 0!; show 3!
		  ask 0 @status 1; show 0!
		  ask 3 @resume 1; show 3!
		  list 0; return 0!
		proto f line 10 params 1 regs 5
		  line 11
		  show 0
		  ask 1 @yield 0!
		  line 12
		  show 1!
		  const 0 "bad"; throw 0!`, roomy(), "error error 10 @ main:2", `
		line 0 0 1
		print 0 0 1 new
		turn 1 0 0 resume
		call 1 1 10 f
		line 1 1 11
		print 1 1 11 5
		turn 0 0 0 yield
		print 0 0 1 true
		print 0 0 1 waiting
		print 0 0 1 true
		print 0 0 1 done
		line 0 0 2
		turn 1 0 0 resume
		line 1 1 12
		print 1 1 12 6
		throw 1 1 12 bad
		back 1 1 0 error
		turn 0 0 0 error
		print 0 0 2 false
		print 0 0 2 done
		throw 0 0 2 error 10`)
	wantRun(t, "giving up", `
		proto main regs 7
		  fn 0 f; ask 1 @task 0!
		  ask 2 @resume 1 1; show 2!
		  const 3 @giveup; list 4; add 4 1; call 3 3! 4!
		  pick 0 3 0; pick 2 3 1; drop 3; show 0! 2!
		  list 0; return 0!
		proto f line 10 params 1 regs 6
		  try >h 1
		  scope 1
		  line 11
		  fn 1 _g; list 2; add 2 0; defer 1! 2!
		  line 12
		  const 1 @print; list 2; add 2 0; defer 1! 2!
		  ask 1 @yield; throw 1
		h:
		  throw 1
		proto _g line 20 params 1 regs 5
		  ask 1 @status 0; show 1!
		  const 1 "dropped"; try >no 2
		  ask 2 @yield; throw 1
		no:
		  drop 2; drop 3; throw 1`, roomy(), "ok", `
		turn 1 0 0 resume
		call 1 1 10 f
		line 1 1 11
		line 1 1 12
		turn 0 0 0 yield
		print 0 0 0 true
		turn 1 0 0 giveup
		print 1 1 12 task
		call 1 2 20
		print 1 2 0 running
		throw 1 2 0 error 10
		catch 1 2 0 error 10
		throw 1 2 0 dropped
		back 1 2 0 error
		back 1 1 0 gone
		turn 0 0 0 gone
		print 0 0 0 false dropped`)
}

func TestRecordsOfLastWords(t *testing.T) {
	wantRun(t, "two, of which one fails", `
		proto main regs 6
		  line 1
		  table 0; fn 1 f; const 2 "last"; raw 0 2! 1!
		  table 1; const 2 "a"; raw 1 2 2!; ask 1 @setkind 1 0
		  table 2; ask 2 @setkind 2 0; drop 1; drop 2
		  ask 1 @cells; show 1!
		  ask 1 @collect; show 1!
		  ask 1 @collect; show 1!
		  list 0; return 0!
		proto f line 10 params 1 regs 5
		  line 11
		  const 1 "a"; index 1 0 1!; show 1
		  if 1! >end
		  const 1 @yield; list 2; call 1 1! 2!; drop 1
		end:
		  list 1; return 1!`, roomy(), "ok", `
		line 0 0 1
		print 0 0 1 3
		last 0 0 0
		call 0 1 10 f
		line 0 1 11
		print 0 1 11 a
		back 0 1 0
		last 0 0 0
		call 0 1 10 f
		line 0 1 11
		print 0 1 11 nil
		throw 0 1 11 error 10
		back 0 1 0 error
		catch 0 0 0 error 10
		print 0 0 1 3
		print 0 0 1 3`)
}

// value prints: what an instruction or a builtin answers, one code a row.

func TestOperations(t *testing.T) {
	for _, x := range []struct{ a, op, b, want string }{
		{"7", "add", "8", "15"}, {"9223372036854775807", "add", "1", "-9223372036854775808"}, {"1", "add", "0.5", "3p-1"},
		{"7", "sub", "8", "-1"}, {"3", "mul", "-4", "-12"}, {"1", "div", "2", "1p-1"}, {"1", "div", "0", "inf"},
		{"-7", "idiv", "2", "-4"}, {"7", "idiv", "0", "error 2"}, {"-7", "mod", "3", "2"}, {"7", "mod", "0", "error 2"},
		{"7.5", "mod", "2", "3p-1"}, {"-7.5", "idiv", "2", "-1p2"},
		{"12", "and", "10", "8"}, {"12", "or", "10", "14"}, {"12", "xor", "10", "6"}, {"1", "and", "1.0", "error 1"},
		{"1", "shl", "63", "-9223372036854775808"}, {"1", "shl", "64", "0"}, {"-1", "shr", "63", "1"}, {"1", "shr", "-1", "error 3"},
		{`"a"`, "join", "7", "a7"}, {"1", "join", "0.5", "11p-1"}, {`"a"`, "join", "nil", "error 1"},
		{"1", "eq", "1.0", "true"}, {"1", "ne", "1.0", "false"}, {`"1"`, "eq", "1", "false"}, {"nil", "eq", "nil", "true"}, {"@print", "eq", "@read", "false"},
		{"9007199254740993", "gt", "9007199254740992.0", "true"}, {"1", "lt", "2", "true"}, {`"a"`, "le", `"b"`, "true"}, {`"b"`, "ge", `"b"`, "true"}, {`"b"`, "lt", "1", "error 1"}, {"nil", "ge", "nil", "error 1"},
	} {
		name := x.a + " " + x.op + " " + x.b
		end := "ok " + x.want
		if strings.HasPrefix(x.want, "error") {
			end = "error " + x.want + " @ main:4"
		}
		pairs := map[string]string{
			"by itself": "const 0 %s; const 1 %s; at 4; binary 2 %s 0! 1!; list 0; add 0 2!; return 0!",
			"kept":      "const 0 %s; const 1 %s; at 4; binary 2 %s 0 1; drop 0; list 0; add 0 2!; return 0!",
			"QWith":     "at 4; const 0 %s; const 1 %s; binary 2 %s 0! 1!; list 0; add 0 2!; return 0!",
		}
		for how, source := range pairs {
			wantRun(t, name+" "+how, "proto main regs 3\n"+fmt.Sprintf(source, x.a, x.b, x.op), roomy(), end, "-")
		}
		wantRun(t, name+" QWith on the left", fmt.Sprintf("proto main regs 3\n at 4; const 1 %s; const 0 %s; binary 2 %s 0! 1!; list 0; add 0 2!; return 0!", x.b, x.a, x.op), roomy(), end, "-")
	}
	for _, x := range []struct{ op, a, want string }{
		{"neg", "7", "-7"}, {"neg", "-9223372036854775808", "-9223372036854775808"}, {"neg", "0.0", "-0p0"}, {"neg", `"a"`, "error 1"},
		{"flip", "0", "-1"}, {"flip", "1.0", "error 1"}, {"not", "nil", "true"}, {"not", "0", "false"}, {"not", "@print", "false"},
		{"len", `"abc"`, "3"}, {"len", "5", "error 1"}, {"len", "@print", "error 1"},
	} {
		end := "ok " + x.want
		if strings.HasPrefix(x.want, "error") {
			end = "error " + x.want + " @ main:0"
		}
		source := fmt.Sprintf("proto main regs 2\n const 0 %s; unary 1 %s 0!; list 0; add 0 1!; return 0!", x.a, x.op)
		wantRun(t, x.op+" "+x.a, source, roomy(), end, "-")
	}
}

func TestTests(t *testing.T) {
	for _, x := range []struct{ a, op, b, jump, want string }{
		{"1", "lt", "2", "if", "there"}, {"2", "lt", "2", "if", "here"}, {"1", "lt", "2", "unless", "here"}, {"2", "lt", "2", "unless", "there"},
		{"1", "eq", "1.0", "if", "there"}, {"1", "ne", "1.0", "if", "here"}, {`"a"`, "gt", "1", "if", "error"},
	} {
		source := fmt.Sprintf(`
			proto main regs 6
			  at 3; const 1 %s; const 0 %s; at 4
			  binary 2 %s 0! 1
			  %s 2! >there
			  const 0 "here"; jump >end
			there:
			  const 0 "there"
			end:
			  list 3; add 3 0; return 3!`, x.b, x.a, x.op, x.jump)
		end := "ok " + x.want
		if x.want == "error" {
			end = "error error 1 @ main:4"
		}
		wantRun(t, fmt.Sprint(x), source, roomy(), end, "-")
	}
}

// kinded is a text whose register 0 holds a table of a kind with one handler, the fn h; its fn prints what it is called with.
func kinded(handler, body string) string {
	return `
		proto main line 1 regs 9
		  table 0; table 1; const 2 "` + handler + `"; fn 3 h; raw 1 2! 3!; ask 2 @setkind 0 1!; drop 2
		  line 2
		  ` + body + `
		  list 0; return 0!
		proto h line 10 rest regs 5
		  line 11
		  const 1 @print; copy 2 0; call 1 1! 2!; drop 1
		  pick 1 0 0; const 2 42; drop 0; list 0; add 0 2!; add 0 1!; return 0!`
}

func TestHandlersOfKinds(t *testing.T) {
	for _, x := range []struct{ handler, body string }{
		{"add", "const 1 1; binary 2 add 0 1; show 2"}, {"sub", "const 1 1; binary 2 sub 0 1; show 2"}, {"mul", "const 1 1; binary 2 mul 0 1; show 2"},
		{"div", "const 1 1; binary 2 div 0 1; show 2"}, {"idiv", "const 1 1; binary 2 idiv 0 1; show 2"}, {"mod", "const 1 1; binary 2 mod 0 1; show 2"},
		{"and", "const 1 1; binary 2 and 0 1; show 2"}, {"or", "const 1 1; binary 2 or 0 1; show 2"}, {"xor", "const 1 1; binary 2 xor 0 1; show 2"},
		{"shl", "const 1 1; binary 2 shl 0 1; show 2"}, {"shr", "const 1 1; binary 2 shr 0 1; show 2"}, {"join", "const 1 1; binary 2 join 0 1; show 2"},
		{"index", "const 1 1; index 2 0 1; show 2"},
	} {
		wantPrints(t, x.handler, kinded(x.handler, x.body), roomy(), "ok", "table 1", "42")
		turned := strings.Replace(x.body, "0 1;", "1 0;", 1)
		if x.handler != "index" {
			wantPrints(t, x.handler+" of the second", kinded(x.handler, turned), roomy(), "ok", "1 table", "42")
		}
		wantPrints(t, "no "+x.handler, kinded("other", x.body), roomy(), map[bool]string{true: "ok", false: "error error 1 @ main:2"}[x.handler == "index"],
			map[bool][]string{true: {"nil"}, false: nil}[x.handler == "index"]...)
	}
	for _, x := range []struct {
		handler, body string
		prints        []string
	}{
		{"neg", "unary 2 neg 0; show 2", []string{"table", "42"}},
		{"flip", "unary 2 flip 0; show 2", []string{"table", "42"}},
		{"len", "unary 2 len 0; show 2", []string{"table", "42"}},
		{"not", "unary 2 not 0; show 2", []string{"false"}},
		{"eq", "table 1; binary 2 eq 0 1; show 2", []string{"table table", "true"}},
		{"eq", "table 1; binary 2 eq 1 0; show 2", []string{"table table", "true"}},
		{"eq", "table 1; binary 2 ne 1 0; show 2", []string{"table table", "false"}},
		{"eq", "binary 2 eq 0 0; show 2", []string{"true"}},
		{"eq", "binary 2 ne 0 0; show 2", []string{"false"}},
		{"eq", "const 1 1; binary 2 eq 0 1; show 2", []string{"false"}},
		{"lt", "const 1 1; binary 2 lt 0 1; show 2", []string{"table 1", "true"}},
		{"lt", "const 1 1; binary 2 gt 0 1; show 2", []string{"1 table", "true"}},
		{"lt", "const 1 1; binary 2 lt 1 0; show 2", []string{"1 table", "true"}},
		{"lt", "const 1 1; binary 2 gt 1 0; show 2", []string{"table 1", "true"}},
		{"le", "const 1 1; binary 2 le 0 1; show 2", []string{"table 1", "true"}},
		{"le", "const 1 1; binary 2 ge 0 1; show 2", []string{"1 table", "true"}},
		{"setindex", "const 1 1; set 0 1 1", []string{"table 1 1"}},
		{"setindex", "const 1 1; raw 0 1 1; set 0 1 1; index 2 0 1; show 2", []string{"1"}},
		{"setindex", "const 1 1; const 2 nil; set 0 1 2!", []string{"table 1 nil"}},
		{"index", "const 1 1; raw 0 1 1; index 2 0 1; show 2", []string{"1"}},
		{"index", "const 1 nil; index 2 0 1; show 2", []string{"table nil", "42"}},
		{"call", "const 1 7; list 2; add 2 1; call 2 0 2!; pick 3 2 1; show 3", []string{"table 7", "table"}},
		{"weak", "unary 2 len 0; show 2", []string{"0"}},
	} {
		wantPrints(t, x.handler+": "+x.body, kinded(x.handler, x.body), roomy(), "ok", x.prints...)
	}
	for _, body := range []string{"binary 2 lt 0 0", "binary 2 ge 0 0", "unary 2 neg 0", "unary 2 flip 0", "binary 2 add 0 0"} {
		wantPrints(t, "no handler: "+body, kinded("other", body+"; drop 2"), roomy(), "error error 1 @ main:2")
	}
	wantPrints(t, "an operation with another error", kinded("idiv", "const 1 1; const 2 0; binary 2 idiv 1 2!"), roomy(), "error error 2 @ main:2")
	wantPrints(t, "a test", kinded("le", `
		const 1 1; at 3
		binary 2 ge 0 1
		unless 2! >no
		show 1
		no:`), roomy(), "ok", "1 table", "1")
	wantPrints(t, "a test of a const", kinded("lt", `
		const 1 1
		binary 2 lt 0 1!
		if 2! >yes
		show 0
		yes:`), roomy(), "ok", "table 1")
}

func TestChainsOfTables(t *testing.T) {
	// A table whose kind reads and writes by another table.
	const two = `
		proto main line 1 regs 8
		  table 0; table 1; table 2
		  const 3 "index"; raw 2 3! 1; const 3 "setindex"; raw 2 3! 1
		  ask 0 @setkind 0 2!
		  const 2 "a"; const 3 5
		  `
	wantPrints(t, "read", two+"raw 1 2 3; index 4 0 2; show 4; list 5; return 5!", roomy(), "ok", "5")
	wantPrints(t, "write", two+"set 0 2 3; index 4 1 2; show 4; ask 4 @rawget 0 2; show 4; list 5; return 5!", roomy(), "ok", "5", "nil")
	wantPrints(t, "its own pair", two+"raw 0 2 2; set 0 2 3; index 4 1 2; show 4; index 4 0 2; show 4; list 5; return 5!", roomy(), "ok", "nil", "5")
	wantPrints(t, "no key", two+"const 3 nil; set 0 3 2; list 5; return 5!", roomy(), "error error 5 @ main:0")
	wantPrints(t, "nothing at nil", two+"const 3 nil; index 4 0 3; show 4; list 5; return 5!", roomy(), "ok", "nil")
	for _, x := range []string{"index 4 3 2", "set 3 2 2; const 4 1", "const 4 nil; set 4 4 4"} {
		wantPrints(t, x, two+x+"; list 5; return 5!", roomy(), "error error 7 @ main:0")
	}
}
