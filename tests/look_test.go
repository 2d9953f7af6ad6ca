package tests

import (
	"strings"
	"testing"
)

// Views, written out: what stands at each record.

func TestViewsOfEachKind(t *testing.T) {
	wantLooks(t, "calls, errors and prints", `
		proto main line 1 regs 7
		  name t 0; name n 1; name g 2; name o 3
		  line 2
		  table 0; const 1 5
		  fn 2 f; list 3; add 3 0; add 3 1; call 3 2 3!; drop 3
		  at 4; show 1
		  drop 1; line 5; list 3; return 3!
		proto f line 10 params 2 regs 8
		  name a 0; name b 1; name e 2; name tr 3; name w 4; name x 5
		  line 11
		  box 1 1!; const 5 "deep"
		  at 12; try >h 2
		  const 2 1.5; at 13; const 4 nil; throw 0
		h:
		  const 4 true; const 5 2; show 3
		  list 6; return 6!`, roomy(), `
		line @0 | main:2
		call f @0 | f:0 a=table b=5 | main:2 t=table n=5 g=fn
		line @0 | f:11 a=table b=5 | main:2 t=table n=5 g=fn
		throw table @0 | f:13 a=table b=5 e=3p-1 w=nil x=deep | main:2 t=table n=5 g=fn
		catch table @0 | f:12 a=table b=5 | main:2 t=table n=5 g=fn
		print f:13 main:2 @0 | f:12 a=table b=5 e=table tr=f:13 main:2 w=true x=2 | main:2 t=table n=5 g=fn
		back @0 | f:0 a=table b=5 | main:2 t=table n=5 g=fn
		print 5 @0 | main:4 t=table n=5 g=fn
		line @0 | main:5 t=table g=fn`)
}

// leaves is a text whose fn f is left at the end of two guards with defers,
// by what stands there; it has registers below Params, below each Keep and above.
func leaves(call, end string) string {
	return `
		proto main regs 8
		  name c 5
		  fn 0 d; fn 1 f; const 5 1
		  ` + call + `
		  list 0; return 0!
		proto d line 30 params 1 regs 4
		  name x 0; name y 1
		  const 1 0; at 31; show 0; list 2; return 2!
		proto f line 10 params 2 regs 9
		  name a 0; name b 1; name l 2; name p 3; name q 4; name r 5
		  list 2; const 3 30; scope 4
		  list 7; add 7 3; line 11; defer 0 7!
		  const 4 40; box 4 4!; scope 5
		  get 7 4; list 8; add 8 7!; line 12; defer 0 8!
		  const 5 50; line 13; ` + end
}

func TestViewsOfACallThatIsLeft(t *testing.T) {
	const call = "list 2; add 2 0; add 2 1; call 2 1 2!; drop 2"
	const first = `
		call f @0 | f:0 a=fn b=fn | main:0 c=1
		line @0 | f:11 a=fn b=fn p=30 | main:0 c=1
		line @0 | f:12 a=fn b=fn p=30 q=40 | main:0 c=1
		line @0 | f:13 a=fn b=fn p=30 q=40 r=50 | main:0 c=1
		`
	const defers = `
		call d @0 | d:0 x=40 | f:12 a=fn b=fn p=30 q=40 | main:0 c=1
		print 40 @0 | d:31 x=40 y=0 | f:12 a=fn b=fn p=30 q=40 | main:0 c=1
		back @0 | d:0 x=40 | f:12 a=fn b=fn p=30 q=40 | main:0 c=1
		call d @0 | d:0 x=30 | f:11 a=fn b=fn p=30 | main:0 c=1
		print 30 @0 | d:31 x=30 y=0 | f:11 a=fn b=fn p=30 | main:0 c=1
		back @0 | d:0 x=30 | f:11 a=fn b=fn p=30 | main:0 c=1
		`
	wantLooks(t, "by a return", leaves(call, "list 6; return 6!"), roomy(), first+defers+`back @0 | f:0 a=fn b=fn | main:0 c=1`)
	wantLooks(t, "by an error", leaves(call, "throw 5!"), roomy(), first+`
		throw 50 @0 | f:13 a=fn b=fn p=30 q=40 | main:0 c=1`+defers+`
		back error @0 | f:0 a=fn b=fn | main:0 c=1`)
	// ILeave hides nothing, and no register changes.
	wantLooks(t, "by no more than its guards", leaves(call, "leave; at 14; leave; drop 0; list 6; return 6!"), roomy(), first+`
		call d @0 | d:0 x=40 | f:12 a=fn b=fn p=30 q=40 r=50 | main:0 c=1
		print 40 @0 | d:31 x=40 y=0 | f:12 a=fn b=fn p=30 q=40 r=50 | main:0 c=1
		back @0 | d:0 x=40 | f:12 a=fn b=fn p=30 q=40 r=50 | main:0 c=1
		call d @0 | d:0 x=30 | f:11 a=fn b=fn p=30 q=40 r=50 | main:0 c=1
		print 30 @0 | d:31 x=30 y=0 | f:11 a=fn b=fn p=30 q=40 r=50 | main:0 c=1
		back @0 | d:0 x=30 | f:11 a=fn b=fn p=30 q=40 r=50 | main:0 c=1
		back @0 | f:0 b=fn | main:0 c=1`)
}

// A task that waits inside of its guards is given up.
func TestViewsOfACallThatIsGivenUp(t *testing.T) {
	const call = "ask 2 @task 1; ask 3 @resume 2 0 1; drop 3; at 3; ask 3 @giveup 2; show 3; drop 2; drop 3"
	wantLooks(t, "given up", leaves(call, "const 7 @yield; list 8; call 7 7! 8!; return 7!"), roomy(), `
		turn resume @1
		call f @1 | f:0 a=fn b=fn
		line @1 | f:11 a=fn b=fn p=30
		line @1 | f:12 a=fn b=fn p=30 q=40
		line @1 | f:13 a=fn b=fn p=30 q=40 r=50
		turn yield @0 | main:0 c=1
		turn giveup @1 | f:13 a=fn b=fn p=30 q=40 r=50
		call d @1 | d:0 x=40 | f:12 a=fn b=fn p=30 q=40
		print 40 @1 | d:31 x=40 y=0 | f:12 a=fn b=fn p=30 q=40
		back @1 | d:0 x=40 | f:12 a=fn b=fn p=30 q=40
		call d @1 | d:0 x=30 | f:11 a=fn b=fn p=30
		print 30 @1 | d:31 x=30 y=0 | f:11 a=fn b=fn p=30
		back @1 | d:0 x=30 | f:11 a=fn b=fn p=30
		back gone @1 | f:0 a=fn b=fn
		turn gone @0 | main:3 c=1
		print true @0 | main:3 c=1`)
}

// An error that leaves a defer hides what its guard does not keep, from then on; it is thrown ahead of that.
func TestViewsOfErrorsInDefers(t *testing.T) {
	const body = `
		proto main regs 9
		  name a 0; name b 1; name c 2; name e 3
		  fn 0 f; const 1 10; const 2 20
		  try >h 1
		  scope 2; line 1
		  list 7; add 7 1; defer 0 7!
		  const 8 "no fn"; list 7; line 2; defer 8! 7!
		  line 3; list 7; add 7 2; defer 0 7!
		  at 4; %s
		h:
		  show 1 2; list 3; return 3!
		proto f params 1 regs 3
		  name x 0
		  throw 0`
	const rest = `
		throw 20 @0 | f:0 x=20 | main:3 a=fn b=10 %s
		back error @0 | f:0 x=20 | main:3 a=fn b=10 %s
		throw error 6 @0 | main:2 a=fn b=10
		call f @0 | f:0 x=10 | main:1 a=fn b=10
		throw 10 @0 | f:0 x=10 | main:1 a=fn b=10
		back error @0 | f:0 x=10 | main:1 a=fn b=10
		catch 10 @0 | main:0 a=fn
		print 10 f:0 main:1 @0 | main:0 a=fn b=10 c=f:0 main:1`
	lines := `
		line @0 | main:1 a=fn b=10 c=20
		line @0 | main:2 a=fn b=10 c=20
		line @0 | main:3 a=fn b=10 c=20
		`
	wantLooks(t, "of an ILeave", strings.Replace(body, "%s", "leave; list 3; return 3!", 1), roomy(), lines+`
		call f @0 | f:0 x=20 | main:3 a=fn b=10 c=20
		`+strings.ReplaceAll(rest, "%s", "c=20"))
	wantLooks(t, "of an error", strings.Replace(body, "%s", "throw 2", 1), roomy(), lines+`
		throw 20 @0 | main:4 a=fn b=10 c=20
		call f @0 | f:0 x=20 | main:3 a=fn b=10
		`+strings.ReplaceAll(rest, " %s", ""))
	wantLooks(t, "of a return", strings.Replace(body, "%s", "list 3; return 3!", 1), roomy(), lines+`
		call f @0 | f:0 x=20 | main:3 a=fn b=10
		`+strings.ReplaceAll(rest, " %s", ""))
}

// A return goes through a guard that catches as if it were not there; the keep that counts is that of the guard with defers.
func TestViewsOfLeavingMixedGuards(t *testing.T) {
	wantLooks(t, "a guard that catches inside and outside", `
		proto main regs 4
		  fn 0 f; list 1; call 1 0! 1!; return 1!
		proto f regs 8
		  name a 0; name b 1; name c 2; name d 3; name e 4
		  const 0 1; const 1 2; const 2 3; const 3 4; const 4 5
		  try >h 1; scope 4
		  const 5 @print; list 6; add 6 3; defer 5! 6!
		  at 7; try >h2 3; list 5; return 5!
		h:
		  list 4; return 4!
		h2:
		  throw 0`, roomy(), `
		call f @0 | f:0 | main:0
		print 4 @0 | f:0 a=1 b=2 c=3 d=4 | main:0
		back @0 | f:0 | main:0`)
	// A keep of none hides all, a keep of all nothing; IKeep counts.
	for keep, shown := range map[string]string{"0": "", "1": " a=1", "2": " a=1 b=2", "4": " a=1 b=2"} {
		for _, guard := range []string{"scope " + keep, "scope 4; keep " + keep, "scope 0; keep " + keep} {
			wantLooks(t, guard, `
				proto main regs 4
				  name a 0; name b 1
				  const 0 1; const 1 2; `+guard+`
				  const 2 @print; list 3; add 3 0; defer 2! 3!
				  throw 1`, roomy(), `
				throw 2 @0 | main:0 a=1 b=2
				print 1 @0 | main:0`+shown)
		}
	}
}
