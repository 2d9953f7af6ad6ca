package tests

import (
	"fmt"
	"reflect"
	"strings"
	"testing"

	"loop.example/loom/impl"
)

// toldView tells what stands: @ and the task, then its open calls, each with
// its name (or the number of its proto), its line at hand and its variables.
func toldView(c impl.Code, v impl.View) string {
	var out strings.Builder
	fmt.Fprintf(&out, "@%d", v.Task)
	for _, call := range v.Calls {
		name := c.Protos[call.Fn].Name
		if name == "" {
			name = fmt.Sprint(call.Fn)
		}
		fmt.Fprintf(&out, " | %s:%d", name, call.Line)
		for _, x := range call.Vars {
			fmt.Fprintf(&out, " %s=%s", x.Name, x.Text)
		}
	}
	return out.String()
}

// toldLooks tells the records of a run, one a line, each with its text and what stands then.
func toldLooks(c impl.Code, rep impl.Report, look func(k int) impl.View) string {
	var out strings.Builder
	for k, x := range rep.Recs {
		out.WriteString(strings.Fields(recordNames)[x.Kind] + " ")
		if x.Text != "" {
			out.WriteString(x.Text + " ")
		}
		out.WriteString(toldView(c, look(k)) + "\n")
	}
	return out.String()
}

// wantLooks holds what stands at each record of a run against what is wanted, and against plain stepping at every pace.
func wantLooks(t *testing.T, name, source string, in impl.Input, want string) impl.Report {
	t.Helper()
	c := verified(t, source)
	var lines strings.Builder
	for _, line := range strings.Split(want, "\n") {
		if line = strings.TrimSpace(line); line != "" {
			lines.WriteString(line + "\n")
		}
	}
	rep := impl.RunLoom(c, in, 0)
	got := toldLooks(c, rep, func(k int) impl.View { return impl.LookLoom(c, in, 0, k) })
	if got != lines.String() {
		t.Errorf("%s: got\n%swant\n%s", name, got, lines.String())
	}
	wantViews(t, name, c, in)
	return rep
}

// wantViews holds the report of a run, and the view at every one of its
// records, against plain stepping, at several paces; there is none ahead of
// the first and behind the last.
func wantViews(t *testing.T, name string, c impl.Code, in impl.Input) {
	t.Helper()
	rep, views := plainViews(c, in)
	for _, pace := range paces() {
		if got := impl.RunLoom(c, in, pace); !alike(got, rep) {
			t.Fatalf("%s, pace %d: got\n%+v\nwant\n%+v", name, pace, got, rep)
		}
		for k, want := range views {
			wantView(t, name, c, in, pace, k, want)
		}
		for _, k := range []int{tiny, -2, -1, len(views), len(views) + 1, huge} {
			wantView(t, name, c, in, pace, k, impl.View{})
		}
	}
}

func wantView(t *testing.T, name string, c impl.Code, in impl.Input, pace, k int, want impl.View) {
	t.Helper()
	if got := impl.LookLoom(c, in, pace, k); !alike(got, want) {
		t.Fatalf("%s, pace %d, record %d: got\n%s (%v)\nwant\n%s (%v)", name, pace, k, toldView(c, got), got.Ok, toldView(c, want), want.Ok)
	}
}

// wantUntouched asks that nothing is written into a code and an input by a run
// and a view, that these share no memory, and that they are the same again.
func wantUntouched(t *testing.T, name string, c impl.Code, in impl.Input, pace, k int) {
	t.Helper()
	code, input := copyCode(c), copyInput(in)
	rep, view := impl.RunLoom(c, in, pace), impl.LookLoom(c, in, pace, k)
	first, shown := fmt.Sprintf("%+v", rep), fmt.Sprintf("%+v", view)
	wantApart(t, rep, c, in)
	wantApart(t, view, c, in)
	scribble(reflect.ValueOf(&rep).Elem())
	scribble(reflect.ValueOf(&view).Elem())
	if !alike(c, code) || !alike(in, input) {
		t.Fatalf("%s: the code or the input was written into", name)
	}
	if again := fmt.Sprintf("%+v", impl.RunLoom(c, in, pace)); again != first {
		t.Fatalf("%s, pace %d: first %s, then %s", name, pace, first, again)
	}
	if again := fmt.Sprintf("%+v", impl.LookLoom(c, in, pace, k)); again != shown {
		t.Fatalf("%s, pace %d, record %d: first %s, then %s", name, pace, k, shown, again)
	}
}

// everyName is a code with names for all registers: each has one that holds
// everywhere, and as many as there is room for have one at each instruction
// that holds there alone.
func everyName(c impl.Code) impl.Code {
	c = copyCode(c)
	for i := range c.Protos {
		p := &c.Protos[i]
		p.Named = nil
		for r := range p.Regs {
			p.Named = append(p.Named, impl.Named{Name: fmt.Sprintf("r%d", r), Reg: r, To: len(p.Ins)})
		}
		room := impl.MaxConsts - len(p.Named)
		some := min(p.Regs, max(1, room/len(p.Ins)))
		for n := range min(room, len(p.Ins)*some) {
			r, at := n%some, n/some
			p.Named = append(p.Named, impl.Named{Name: fmt.Sprintf("r%d.%d", r, at), Reg: r, From: at, To: at + 1})
		}
	}
	return c
}

// someNames is a code with names for registers here and there, many of which hold at one instruction or at none.
func (d *dice) someNames(c impl.Code) impl.Code {
	c = copyCode(c)
	for i := range c.Protos {
		p := &c.Protos[i]
		p.Named = nil
		if p.Regs == 0 {
			continue
		}
		for n := range d.pick(d.roll(6), 60, 500) {
			from, to := d.roll(len(p.Ins)+1), d.roll(len(p.Ins)+1)
			switch {
			case d.roll(3) == 0:
				from, to = 0, len(p.Ins)
			case d.roll(2) == 0:
				to = min(from+d.pick(0, 1, 1, 1, 2), len(p.Ins))
			case from > to:
				from, to = to, from
			}
			reg := d.pick(d.roll(p.Regs), d.roll(min(p.Regs, 14)), d.roll(min(p.Regs, p.Params+2)))
			p.Named = append(p.Named, impl.Named{Name: fmt.Sprintf("n%d", n%7), Reg: reg, From: from, To: to})
		}
	}
	return c
}
