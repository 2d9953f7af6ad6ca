package tests

import (
	"fmt"
	"testing"

	"loop.example/loom/impl"
)

// What RunLoom and LookLoom answer at every argument.

// everyThing has tables, fns, boxes, kinds, tasks, guards, defers, weak tables and last words, and records of each kind.
const everyThing = `
	proto main line 1 rest regs 12
	  name args 0; name kind 1; name t 2; name f 3; name n 4; name task 5; name got 6; name err 7; name trace 8
	  line 2
	  table 1; const 4 5; box 4 4!; fn 3 f
	  const 5 "last"; raw 1 5! 3; const 5 "neg"; raw 1 5! 3; const 5 "weak"; const 6 "kv"; raw 1 5! 6!
	  table 2; ask 2 @setkind 2 1; table 5; raw 2 5 5; const 6 "k"; raw 2 6! 5!
	  line 3; only u 2; unary 6 neg 2
	  ask 5 @task 3; ask 6 @resume 5; line 4; ask 6 @giveup 5; show 6
	  drop 5; drop 6; ask 6 @collect; show 6
	  drop 2; table 2; ask 2 @setkind 2 1; drop 2; ask 6 @collect; show 6
	  const 2 "x"; get 7 4; binary 2 join 2! 7!; show 2
	  try >h 7
	  scope 9; const 9 @print; list 10; add 10 3; line 5; defer 9! 10!
	  const 7 "k"; box 8 7; only x 8; line 6; const 9 nil; const 10 "k"; index 9 9! 10!; throw 9
	h:
	  line 7; show 7 8
	  list 9; return 9!
	proto f line 20 params 1 rest regs 7 ups l4
	  name x 0; name rest 1; name v 2; name w 3
	  upget 2 0; const 3 1; binary 2 add 2! 3!; upput 0 2
	  scope 3; const 3 @text; list 4; defer 3! 4!
	  line 21; try >h 3; ask 3 @yield 2; endtry; drop 3; leave; return 1!
	h:
	  line 22; drop 3; drop 4; leave; list 3; add 3 2; return 3!`

func TestViewsOfEveryThing(t *testing.T) {
	c := verified(t, everyThing)
	rep, _ := plainViews(c, roomy("a", "b"))
	seen := tally{}
	seen.report(rep)
	seen.want(t, 1, "line, call, back, throw, catch, print, turn, last, turn resume, turn yield, turn giveup, turn gone, throw error 7, throw error 10")
	wantViews(t, "everything", c, roomy("a", "b"))
	wantViews(t, "everything", everyName(c), roomy())
	for k := range rep.Recs {
		wantUntouched(t, "everything", c, roomy("a", "b"), paces()[k%6], k)
	}
}

func TestRunsByPace(t *testing.T) {
	c, in := verified(t, everyThing), roomy("a")
	want := plainRun(c, in)
	for _, pace := range []int{0, 1, 2, 500, 999, 1000} {
		if got := impl.RunLoom(c, in, pace); !alike(got, want) || got.Code != 0 {
			t.Errorf("pace %d: got %+v", pace, got)
		}
		if got := impl.Stand(c, in, pace, impl.Moves(c, in)); !alike(got.Rep, want) {
			t.Errorf("pace %d: the machine has %+v", pace, got.Rep)
		}
		if !impl.LookLoom(c, in, pace, 0).Ok {
			t.Errorf("pace %d: no view", pace)
		}
	}
	for _, pace := range []int{-1, 1001, -1000, huge, tiny} {
		wantNoRun(t, fmt.Sprint("pace ", pace), c, in, pace)
	}
}

// wantNoRun asks for Code 3 and all else zero, and no view at any record.
func wantNoRun(t *testing.T, name string, c impl.Code, in impl.Input, pace int) {
	t.Helper()
	if got := impl.RunLoom(c, in, pace); !alike(got, impl.Report{Code: 3}) {
		t.Errorf("%s: got %+v", name, got)
	}
	for _, k := range []int{tiny, -1, 0, 1, huge} {
		if got := impl.LookLoom(c, in, pace, k); !alike(got, impl.View{}) {
			t.Errorf("%s, record %d: got %+v", name, k, got)
		}
	}
}

func TestRunsOfWhatIsNotRun(t *testing.T) {
	good, in := verified(t, everyThing), roomy("a")
	if got := impl.RunLoom(good, in, 0); got.Code == 3 {
		t.Fatal("not run")
	}
	wantNoRun(t, "the zero value", impl.Code{}, in, 0)
	wantNoRun(t, "no input", good, impl.Input{}, 0)
	wantNoRun(t, "a loop without a tick", asm("proto main regs 1\n jump 0"), in, 0)
	for name, spoil := range map[string]func(p *impl.Proto){
		"a register that there is not": func(p *impl.Proto) { p.Ins[1].A = 300 },
		"an Op that there is not":      func(p *impl.Proto) { p.Ins[0].Op = impl.QTest },
		"a name without bytes":         func(p *impl.Proto) { p.Named[0].Name = "" },
		"a name of no register":        func(p *impl.Proto) { p.Named[0].Reg = p.Regs },
		"a name below all":             func(p *impl.Proto) { p.Named[0].From = -1 },
		"a name behind all":            func(p *impl.Proto) { p.Named[0].To = len(p.Ins) + 1 },
		"a name the wrong way":         func(p *impl.Proto) { p.Named[0].From, p.Named[0].To = 2, 1 },
		"no instructions":              func(p *impl.Proto) { p.Ins = nil },
	} {
		for at := range good.Protos {
			c := copyCode(good)
			spoil(&c.Protos[at])
			wantNoRun(t, name, c, in, 0)
			wantNoRun(t, name, c, in, 1)
		}
	}
	for name, bad := range map[string]impl.Input{
		"ticks below 0":    {Ticks: -1, Depth: 1},
		"too many ticks":   {Ticks: impl.MaxTicks + 1, Depth: 1},
		"no depth":         {Ticks: 1},
		"too much depth":   {Ticks: 1, Depth: impl.MaxDepth + 1},
		"cells below 0":    {Ticks: 1, Depth: 1, Cells: -1},
		"too many cells":   {Ticks: 1, Depth: 1, Cells: impl.MaxCells + 1},
		"too many args":    {Ticks: 1, Depth: 1, Args: make([]string, impl.MaxInput+1)},
		"too many lines":   {Ticks: 1, Depth: 1, Lines: make([]string, impl.MaxInput+1)},
		"an arg too long":  {Ticks: 1, Depth: 1, Args: []string{long(impl.MaxStr + 1)}},
		"a line too long":  {Ticks: 1, Depth: 1, Lines: []string{"", long(impl.MaxStr + 1)}},
		"all that is huge": {Ticks: huge, Depth: huge, Cells: huge},
	} {
		wantNoRun(t, name, good, bad, 0)
		wantNoRun(t, name, good, bad, 1000)
	}
}

// P11: every allowance below what a run uses, just that, and one more.
func TestAllowances(t *testing.T) {
	for _, source := range []string{everyThing, everyTick, wholeText} {
		c, in := verified(t, source), roomy("a")
		in.Lines = []string{"one", "two"}
		whole := impl.RunLoom(c, in, 0)
		if whole.Ticks < 10 || whole.Code == 2 {
			t.Fatalf("got %+v", whole)
		}
		records := 0
		for _, pace := range []int{0, 1, 40} {
			for ticks := range whole.Ticks {
				less := in
				less.Ticks = ticks
				got := impl.RunLoom(c, less, pace)
				wantFirst(t, got, whole, ticks)
				records = max(records, len(got.Recs))
				if want := plainRun(c, less); !alike(got, want) {
					t.Fatalf("%d ticks: got %+v, stepped plainly %+v", ticks, got, want)
				}
				last := len(got.Recs) - 1
				if !alike(impl.LookLoom(c, less, pace, last), impl.LookLoom(c, in, 0, last)) || impl.LookLoom(c, less, pace, last+1).Ok {
					t.Fatalf("%d ticks: other views", ticks)
				}
			}
			for _, more := range []int{0, 1, 2, impl.MaxTicks - whole.Ticks} {
				enough := in
				enough.Ticks = whole.Ticks + more
				if got := impl.RunLoom(c, enough, pace); !alike(got, whole) {
					t.Errorf("%d ticks more: got %+v", more, got)
				}
			}
		}
		if records == 0 {
			t.Error("no records")
		}
	}
}

// A run without ticks needs none.
func TestNoTicks(t *testing.T) {
	c := verified(t, "proto main regs 1\n name l 0\n at 3; list 0; return 0!")
	in := impl.Input{Depth: 1}
	if got := impl.RunLoom(c, in, 1); !alike(got, impl.Report{}) {
		t.Errorf("got %+v", got)
	}
	wantViews(t, "no ticks", c, in)
	c = verified(t, "proto main regs 1\n name l 0\n line 3; list 0; return 0!")
	if got := impl.RunLoom(c, in, 1); !alike(got, impl.Report{Code: 2}) {
		t.Errorf("got %+v", got)
	}
	wantViews(t, "one too few", c, in)
	c = verified(t, "proto main regs 1\n name e 0\n const 0 nil; throw 0")
	if got := impl.RunLoom(c, in, 1); !alike(got, impl.Report{Code: 1, Error: "nil", Trace: "main:0", Recs: []impl.Rec{{Kind: impl.RecThrow, Text: "nil"}}}) {
		t.Errorf("got %+v", got)
	}
	wantViews(t, "an error", c, in)
}

// P12: all that the library answers of a code and an input, over and over.
func TestAllAnswersAgain(t *testing.T) {
	for _, source := range []string{everyThing, everyTick, wholeText} {
		c, in := verified(t, source), roomy("a", "b")
		in.Lines = []string{"one", "two"}
		code, input, first := copyCode(c), copyInput(in), ""
		for turn := range 3 {
			all := fmt.Sprint(impl.CheckCode(c), impl.InputOk(in), impl.Prepare(c), impl.QuickListing(c), impl.Moves(c, in), impl.Most(c, in))
			for _, pace := range []int{-1, 0, 1, 40} {
				all += fmt.Sprint(impl.Begin(c, in, pace), impl.Peak(c, in, pace), impl.RunLoom(c, in, pace))
				for _, n := range []int{-1, 0, 7, 80, huge} {
					all += fmt.Sprint(impl.Stand(c, in, pace, n), impl.Alive(c, in, pace, n), impl.Canon(c, in, pace, n), impl.LookLoom(c, in, pace, n))
				}
			}
			if turn == 0 {
				first = all
			}
			if all != first || !alike(c, code) || !alike(in, input) {
				t.Fatalf("turn %d: another answer, or something was written", turn)
			}
		}
	}
}
