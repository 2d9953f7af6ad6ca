package tests

import "testing"

// How runs are cut into moves, written out: 4.10 rule by rule.

func TestMovesOfWhatIsThereAtOnce(t *testing.T) {
	wantMoves(t, "a builtin, two operations", `
		proto main regs 4
		  line 3
		  const 0 7
		  const 1 @text
		  list 2
		  add 2 0
		  call 1 1! 2!
		  unary 2 neg 0
		  binary 3 add 0! 2!
		  return 1!`, roomy(), 0, `
		main@0:0 [. . . .]
		main@1:3 [. . . .]
		main@2:3 [7 . . .]
		main@3:3 [7 @text . .]
		main@4:3 [7 @text () .]
		main@5:3 [7 @text (7) .]
		main@6:3 [7 ("7") . .]
		main@7:3 [7 ("7") -7 .]
		main@8:3 [. ("7") . 0]
		main@8:3 [. . . 0] <return "7" saved 3>
		given "7"
		over ok 7`)
	wantMoves(t, "what is put, read and gone through", `
		proto main regs 5
		  table 0; const 2 7; const 1 "a"; set 0 1 2!
		  index 2 0 1!
		  each 0
		next:
		  eachnext 0 >end 3
		  drop 3
		  jump >next
		end:
		  drop 1; drop 2
		  const 1 @read; const 2 nil
		  eachnext 1 >over 3
		  drop 3
		over:
		  list 3; return 3`, roomy(), 4, `
		main@4:0 [T0 "a" . . .]
		main@5:0 [T0 . 7 . .]
		main@6:0 [T0 0 7 . .]
		main@7:0 [T0 1 7 ("a" 7) .]
		main@8:0 [T0 1 7 . .]
		main@6:0 [T0 1 7 . .]
		main@9:0 [T0 1 7 . .]
		main@11:0 [T0 . . . .]
		main@12:0 [T0 @read . . .]
		main@13:0 [T0 @read nil . .]
		main@15:0 [T0 @read nil . .]
		main@16:0 [T0 @read nil () .]
		main@16:0 [T0 @read nil () .] <return saved 0>
		given
		over ok`)
}

// What the instructions that are done as one would have used in between holds nothing, whatever it held.
func TestMovesOfQuickInstructions(t *testing.T) {
	wantMoves(t, "QTest, QWith, QField, QDrops", `
		proto main regs 4
		  const 0 1; const 1 2
		  binary 0 lt 0 1
		  if 0! >on
		  tick
		on:
		  const 0 3
		  const 0 4
		  binary 2 add 1 0!
		  table 0
		  const 2 "a"
		  index 1 0 2!
		  list 2
		  drop 0; drop 1; drop 2
		  list 1; return 1!`, roomy(), 2, `
		main@2:0 [1 2 . .]
		main@5:0 [. 2 . .]
		main@6:0 [3 2 . .]
		main@8:0 [. 2 6 .]
		main@9:0 [T0 2 6 .]
		main@11:0 [T0 nil . .]
		main@12:0 [T0 nil () .]
		main@15:0 [. . . .]
		main@16:0 [. () . .]
		main@16:0 [. . . .] <return saved 0>
		given
		over ok`)
	// Jumps may lead between them.
	wantMoves(t, "the second of two", `
		proto main regs 3
		  const 1 7; const 0 5; jump >second
		  const 0 8
		second:
		  binary 1 sub 0! 1
		  drop 0
		  drop 1
		  list 1; return 1!`, roomy(), 3, `
		main@4:0 [5 7 .]
		main@5:0 [. -2 .]
		main@7:0 [. . .]
		main@8:0 [. () .]
		main@8:0 [. . .] <return saved 0>
		given
		over ok`)
}

func TestMovesOfAHandler(t *testing.T) {
	// QField stands at the index; its handler's values come by way of the frame below it.
	wantMoves(t, "index", `
		proto main regs 4
		  table 0; table 1; const 2 "index"; fn 3 f; raw 1 2! 3!
		  const 2 @setkind; list 3; add 3 0; add 3 1!; call 2 2! 3!; drop 2
		  const 1 "x"
		  index 1 0 1!
		  list 2; add 2 1!; return 2!
		proto f line 9 params 2 regs 3
		  list 2; add 2 1!; return 2!`, roomy(), 11, `
		main@11:0 [T0 . . .]
		main@12:0 [T0 . . .] | after first | f@0:0 [T0 "x" .]
		main@12:0 [T0 . . .] | after first | f@1:0 [T0 "x" ()]
		main@12:0 [T0 . . .] | after first | f@2:0 [T0 . ("x")]
		main@12:0 [T0 . . .] | after first | f@2:0 [T0 . .] <return "x" saved 0>
		main@12:0 [T0 . . .] | after first given "x"
		main@12:0 [T0 . . .] given "x"
		main@13:0 [T0 "x" . .]
		main@14:0 [T0 "x" () .]
		main@15:0 [T0 . ("x") .]
		main@15:0 [T0 . . .] <return "x" saved 0>
		given "x"
		over ok x`)
	// A builtin's values are there at once, but the frame below it takes a move of its own.
	wantMoves(t, "QTest", `
		proto main regs 5
		  table 0; table 1; table 2; const 3 "eq"; const 4 @type; raw 2 3! 4!
		  const 3 @setkind; list 4; add 4 0; add 4 2!; call 3 3! 4!; drop 3
		  binary 2 ne 0 1
		  if 2! >yes
		  tick
		yes:
		  list 2; return 2!`, roomy(), 12, `
		main@12:0 [T0 T1 . . .]
		main@12:0 [T0 T1 . . .] | after not given "table"
		main@12:0 [T0 T1 . . .] given false
		main@13:0 [T0 T1 false . .]
		main@14:0 [T0 T1 . . .]
		main@15:0 [T0 T1 . . .]
		main@16:0 [T0 T1 () . .]
		main@16:0 [T0 T1 . . .] <return saved 0>
		given
		over ok`)
	wantMoves(t, "each", `
		proto main regs 4
		  table 0; table 1; const 2 "each"; fn 3 f; raw 1 2! 3!
		  const 2 @setkind; list 3; add 3 0; add 3 1!; call 2 2! 3!; drop 2
		  each 0
		  eachnext 0 >end 2
		  drop 2
		end:
		  list 2; return 2!
		proto f params 1 regs 2
		  list 1; const 0 @cells; add 1 0; add 1 0!; return 1!`, roomy(), 11, `
		main@11:0 [T0 . . .]
		main@11:0 [. . . .] | after first | f@0:0 [T0 .]
		main@11:0 [. . . .] | after first | f@1:0 [T0 ()]
		main@11:0 [. . . .] | after first | f@2:0 [@cells ()]
		main@11:0 [. . . .] | after first | f@3:0 [@cells (@cells)]
		main@11:0 [. . . .] | after first | f@4:0 [. (@cells @cells)]
		main@11:0 [. . . .] | after first | f@4:0 [. .] <return @cells @cells saved 0>
		main@11:0 [. . . .] | after first given @cells @cells
		main@11:0 [. . . .] given @cells
		main@12:0 [@cells nil . .]
		main@13:0 [@cells nil (0) .]
		main@14:0 [@cells nil . .]
		main@15:0 [@cells nil () .]
		main@15:0 [@cells nil . .] <return saved 0>
		given
		over ok`)
}

func TestMovesOfAHandlerThatFails(t *testing.T) {
	// What is on its way meets the frame of the handler first. QWith stands at the operation.
	wantMoves(t, "add", `
		proto main regs 5
		  table 0; table 2; const 3 "add"; const 4 5; raw 2 3! 4!
		  const 3 @setkind; list 4; add 4 0; add 4 2!; call 3 3! 4!; drop 3
		  line 8
		  const 1 1
		  binary 1 add 0! 1!
		  list 2; return 2!`, roomy(), 12, `
		main@12:8 [T0 . . . .]
		main@13:8 [. . . . .] | after first way error T2
		main@13:8 [. . . . .] way error T2
		main@13:8 [. . . . .] <error T2 saved 8>
		way error T2
		over error error 6 @ main:8`)
	wantMoves(t, "setindex, by a chain", `
		proto main regs 5
		  table 0; table 2; const 3 "setindex"; table 4; raw 2 3! 4!
		  const 3 @setkind; list 4; add 4 0; add 4 2!; call 3 3! 4!; drop 3
		  const 1 "k"; set 0 1 1
		  const 1 nil; set 0! 1 1
		  list 2; return 2!`, roomy(), 12, `
		main@12:0 [T0 "k" . . .]
		main@13:0 [T0 "k" . . .]
		main@14:0 [T0 nil . . .]
		main@14:0 [. nil . . .] way error T3
		main@14:0 [. nil . . .] <error T3 saved 0>
		way error T3
		over error error 5 @ main:0`)
}

func TestMovesOfAReturn(t *testing.T) {
	// Guards go one a move, and so do defers.
	wantMoves(t, "through two guards", `
		proto main regs 4
		  line 1
		  try >h 0
		  const 0 9
		  scope 1
		  const 1 @print; list 2; const 3 5; add 2 3!; defer 1! 2!
		  line 2
		  const 1 @read; list 2; defer 1! 2!
		  const 1 8
		  list 2
		  return 2!
		h:
		  drop 0; drop 1; list 0; return 0!`, roomy(), 15, `
		main@15:2 [9 8 () .] {t0>16 s1*2}
		main@15:2 [9 8 . .] {t0>16 s1*2} <return saved 2>
		main@15:2 [9 . . .] {t0>16 s1*1} <return saved 2 limit 1> given nil
		main@15:1 [9 . . .] {t0>16 s1} <return saved 2 limit 1> given
		main@15:2 [9 . . .] {t0>16} <return saved 2 limit 1>
		main@15:2 [9 . . .] <return saved 2 limit 1>
		given
		over ok`)
}

func TestMovesOfAnError(t *testing.T) {
	wantMoves(t, "one takes the place of another", `
		proto main regs 5
		  line 1
		  try >h 1
		  const 1 4
		  scope 2
		  fn 2 f; list 3; defer 2! 3!
		  line 2
		  const 2 "first"
		  throw 2
		h:
		  list 3; add 3 1!; add 3 2!; return 3!
		proto f line 30 regs 1
		  line 31
		  const 0 "second"
		  throw 0!`, roomy(), 9, `
		main@9:2 [. 4 "first" . .] {t1>10 s2*1}
		main@9:2 [. 4 "first" . .] {t1>10 s2*1} way error "first"
		main@9:2 [. 4 "first" . .] {t1>10 s2*1} <error "first" saved 2>
		main@9:1 [. 4 . . .] {t1>10 s2} <error "first" saved 2 limit 2> | f@0:0 [.]
		main@9:1 [. 4 . . .] {t1>10 s2} <error "first" saved 2 limit 2> | f@1:31 [.]
		main@9:1 [. 4 . . .] {t1>10 s2} <error "first" saved 2 limit 2> | f@2:31 ["second"]
		main@9:1 [. 4 . . .] {t1>10 s2} <error "first" saved 2 limit 2> | f@2:31 [.] way error "second"
		main@9:1 [. 4 . . .] {t1>10 s2} <error "first" saved 2 limit 2> | f@2:31 [.] <error "second" saved 31>
		main@9:1 [. 4 . . .] {t1>10 s2} <error "first" saved 2 limit 2> way error "second"
		main@9:1 [. 4 . . .] {t1>10 s2} <error "second" saved 2 limit 2>
		main@9:2 [. 4 . . .] {t1>10} <error "second" saved 2 limit 2>
		main@10:1 [. "second" "f:31 main:1" . .]
		main@11:1 [. "second" "f:31 main:1" () .]
		main@12:1 [. . "f:31 main:1" ("second") .]
		main@13:1 [. . . ("second" "f:31 main:1") .]
		main@13:1 [. . . . .] <return "second" "f:31 main:1" saved 1>
		given "second" "f:31 main:1"
		over ok second f:31 main:1`)
	wantMoves(t, "caught at once", `
		proto main regs 5
		  const 0 1; try >h 1; const 1 2; const 3 3; list 4; throw 0
		h:
		  list 3; return 3`, roomy(), 5, `
		main@5:0 [1 2 . 3 ()] {t1>6}
		main@5:0 [1 2 . 3 ()] {t1>6} way error 1
		main@5:0 [1 2 . 3 ()] {t1>6} <error 1 saved 0>
		main@6:0 [1 1 "main:0" . .]
		main@7:0 [1 1 "main:0" () .]
		main@7:0 [1 1 "main:0" () .] <return saved 0>
		given
		over ok`)
	wantMoves(t, "a call that cannot be", `
		proto main regs 2
		  at 4; const 0 nil; list 1; call 0 0! 1!; return 0!`, roomy(), 3, `
		main@3:4 [nil ()]
		main@3:4 [. .] way error T0
		main@3:4 [. .] <error T0 saved 4>
		way error T0
		over error error 6 @ main:4`)
}

const leaving = `
	proto main regs 4
	  line 1
	  scope 2
	  const 0 @read; list 1; defer 0! 1!
	  fn 0 f; list 1; defer 0! 1!
	  const 0 1; const 2 2
	  line 5
	  leave
	  list 1; return 1!
	proto f regs 1
`

func TestMovesOfLeave(t *testing.T) {
	wantMoves(t, "all is well", leaving+`
		  list 0; return 0!`, roomy(), 11, `
		main@11:5 [1 . 2 .] {s2*2}
		main@11:5 [1 . 2 .] {s2*2} <one saved 5>
		main@11:1 [1 . 2 .] {s2*1} <one saved 5> | f@0:0 [.]
		main@11:1 [1 . 2 .] {s2*1} <one saved 5> | f@1:0 [()]
		main@11:1 [1 . 2 .] {s2*1} <one saved 5> | f@1:0 [.] <return saved 0>
		main@11:1 [1 . 2 .] {s2*1} <one saved 5> given
		main@11:1 [1 . 2 .] {s2} <one saved 5> given nil
		main@12:5 [1 . 2 .]
		main@13:5 [1 () 2 .]
		main@13:5 [1 . 2 .] <return saved 5>
		given
		over ok`)
	wantMoves(t, "an error leaves a defer", leaving+`
		  const 0 6; throw 0`, roomy(), 12, `
		main@11:5 [1 . 2 .] {s2*2} <one saved 5>
		main@11:1 [1 . 2 .] {s2*1} <one saved 5> | f@0:0 [.]
		main@11:1 [1 . 2 .] {s2*1} <one saved 5> | f@1:0 [6]
		main@11:1 [1 . 2 .] {s2*1} <one saved 5> | f@1:0 [6] way error 6
		main@11:1 [1 . 2 .] {s2*1} <one saved 5> | f@1:0 [6] <error 6 saved 0>
		main@11:1 [1 . 2 .] {s2*1} <one saved 5> way error 6
		main@11:1 [1 . 2 .] {s2*1} <error 6 saved 5>
		main@11:1 [1 . . .] {s2} <error 6 saved 5 limit 2> given nil
		main@11:5 [1 . . .] <error 6 saved 5 limit 2>
		way error 6
		over error 6 @ f:0 main:1`)
}

func TestMovesOfTasks(t *testing.T) {
	wantMoves(t, "a yield", `
		proto main regs 5
		  fn 0 f
		  const 1 @task; list 2; add 2 0!; call 1 1! 2!; first 0 1!
		  const 1 @resume; list 2; add 2 0; const 3 5; add 2 3!; call 1 1! 2!
		  const 2 @resume; list 3; add 3 0; call 2 2! 3!
		  return 2
		proto f line 7 params 1 regs 3
		  const 1 @yield; list 2; add 2 0!; call 1 1! 2!
		  return 1!`, roomy(), 11, `
		main@11:0 [K1 @resume (K1 5) . .]
		K1: f@0:0 [5 . .]
		K1: f@1:0 [5 @yield .]
		K1: f@2:0 [5 @yield ()]
		K1: f@3:0 [. @yield (5)]
		main@12:0 [K1 (true 5) . . .]
		main@13:0 [K1 (true 5) @resume . .]
		main@14:0 [K1 (true 5) @resume () .]
		main@15:0 [K1 (true 5) @resume (K1) .]
		K1: f@4:0 [. () .]
		K1: f@4:0 [. . .] <return saved 0>
		K1: given
		main@15:0 [K1 (true 5) . . .] given true
		main@16:0 [K1 (true 5) (true) . .]
		main@16:0 [K1 (true 5) (true) . .] <return true saved 0>
		given true
		over ok true`)
	wantMoves(t, "an error", `
		proto main regs 3
		  fn 0 f
		  const 1 @task; list 2; add 2 0!; call 1 1! 2!; first 0 1!
		  const 1 @resume; list 2; add 2 0!; call 1 1! 2!
		  return 1!
		proto f params 1 regs 1
		  throw 0`, roomy(), 9, `
		main@9:0 [. @resume (K1)]
		K1: f@0:0 [nil]
		K1: f@0:0 [nil] way error nil
		K1: f@0:0 [nil] <error nil saved 0>
		K1: way error nil
		main@9:0 [. . .] given false nil "f:0"
		main@10:0 [. (false nil "f:0") .]
		main@10:0 [. . .] <return false nil "f:0" saved 0>
		given false nil "f:0"
		over ok false nil f:0`)
}

func TestMovesOfGivingUp(t *testing.T) {
	// The task waits inside of a defer's call while an error is on its way in it.
	wantMoves(t, "in a defer", `
		proto main regs 3
		  fn 0 f
		  const 1 @task; list 2; add 2 0!; call 1 1! 2!; first 0 1!
		  const 1 @resume; list 2; add 2 0; call 1 1! 2!; drop 1
		  const 1 @giveup; list 2; add 2 0!; call 1 1! 2!
		  return 1!
		proto f regs 2
		  try >h 0
		  scope 0
		  const 0 nil; list 1; defer 0! 1!
		  const 0 @yield; list 1; defer 0! 1!
		  const 0 6; throw 0
		h:
		  throw 0`, roomy(), 21, `
		K1: f@9:0 [6 .] {t0>10 s0*2} <error 6 saved 0>
		main@9:0 [K1 . .] given true
		main@10:0 [K1 (true) .]
		main@11:0 [K1 . .]
		main@12:0 [K1 @giveup .]
		main@13:0 [K1 @giveup ()]
		main@14:0 [. @giveup (K1)]
		K1: f@9:0 [. .] {t0>10 s0*1} <error 6 saved 0 limit 0> way gone
		K1: f@9:0 [. .] {t0>10 s0*1} <gone saved 0 limit 0>
		K1: f@9:0 [. .] {t0>10 s0} <gone saved 0 limit 0> way error T1
		K1: f@9:0 [. .] {t0>10 s0} <gone saved 0 limit 0>
		K1: f@9:0 [. .] {t0>10} <gone saved 0 limit 0>
		K1: f@9:0 [. .] <gone saved 0 limit 0>
		K1: way gone
		main@14:0 [. . .] given false T1 "f:0"
		main@15:0 [. (false T1 "f:0") .]
		main@15:0 [. . .] <return false T1 "f:0" saved 0>
		given false T1 "f:0"
		over ok false table f:0`)
	wantMoves(t, "in a handler, then one that is new", `
		proto main regs 4
		  fn 0 f
		  const 1 @task; list 2; add 2 0; call 1 1! 2!; first 3 1!
		  const 1 @task; list 2; add 2 0!; call 1 1! 2!; first 0 1!
		  const 1 @resume; list 2; add 2 0; call 1 1! 2!; drop 1
		  const 1 @giveup; list 2; add 2 0!; call 1 1! 2!; drop 1
		  const 1 @giveup; list 2; add 2 3!; call 1 1! 2!; return 1!
		proto f regs 5
		  table 0; table 2; const 3 "index"; const 4 @yield; raw 2 3! 4!
		  const 3 @setkind; list 4; add 4 0; add 4 2!; call 3 3! 4!; drop 3
		  index 0 0 0; list 1; return 1!`, roomy(), 26, `
		K2: f@11:0 [T1 . . . .]
		main@15:0 [K2 (true T1 T1) . K1]
		main@16:0 [K2 . . K1]
		main@17:0 [K2 @giveup . K1]
		main@18:0 [K2 @giveup () K1]
		main@19:0 [. @giveup (K2) K1]
		K2: f@11:0 [T1 . . . .] | after first way gone
		K2: f@11:0 [T1 . . . .] way gone
		K2: f@11:0 [T1 . . . .] <gone saved 0>
		K2: way gone
		main@19:0 [. . . K1] given true
		main@20:0 [. (true) . K1]
		main@21:0 [. . . K1]
		main@22:0 [. @giveup . K1]
		main@23:0 [. @giveup () K1]
		main@24:0 [. @giveup (K1) .]
		main@25:0 [. (true) . .]
		main@25:0 [. . . .] <return true saved 0>
		given true
		over ok true`)
}

func TestMovesOfACollect(t *testing.T) {
	wantMoves(t, "two last words, both fail", `
		proto main regs 5
		  table 0; fn 1 f; const 2 "last"; raw 0 2! 1!
		  table 1; const 3 @setkind; list 4; add 4 1!; add 4 0; call 3 3! 4!; drop 3
		  table 1; const 3 @setkind; list 4; add 4 1!; add 4 0; call 3 3! 4!; drop 3
		  const 3 @collect; list 4; call 3 3! 4!
		  return 3!
		proto f params 1 regs 1
		  throw 0!`, roomy(), 20, `
		main@20:0 [T0 . . @collect ()]
		main@20:0 [T0 . . . .] | collect
		main@20:0 [T0 . . . .] | collect 1 T2 F1 T3 F1 | f@0:0 [T2]
		main@20:0 [T0 . . . .] | collect 1 T2 F1 T3 F1 | f@0:0 [.] way error T2
		main@20:0 [T0 . . . .] | collect 1 T2 F1 T3 F1 | f@0:0 [.] <error T2 saved 0>
		main@20:0 [T0 . . . .] | collect 1 T2 F1 T3 F1 way error T2
		main@20:0 [T0 . . . .] | collect 1 T2 F1 T3 F1 given
		main@20:0 [T0 . . . .] | collect 2 T2 F1 T3 F1 | f@0:0 [T3]
		main@20:0 [T0 . . . .] | collect 2 T2 F1 T3 F1 | f@0:0 [.] way error T3
		main@20:0 [T0 . . . .] | collect 2 T2 F1 T3 F1 | f@0:0 [.] <error T3 saved 0>
		main@20:0 [T0 . . . .] | collect 2 T2 F1 T3 F1 way error T3
		main@20:0 [T0 . . . .] | collect 2 T2 F1 T3 F1 given
		main@20:0 [T0 . . . .] | collect
		main@20:0 [T0 . . . .] given 3
		main@21:0 [T0 . . (3) .]
		main@21:0 [T0 . . . .] <return 3 saved 0>
		given 3
		over ok 3`)
}
