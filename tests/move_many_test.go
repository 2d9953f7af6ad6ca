package tests

import (
	"reflect"
	"slices"
	"strings"
	"testing"

	"loop.example/loom/impl"
)

// Reports and machines of many made-up codes, held against the second readings.

// tally counts what runs have shown, so that a test can tell that it asked enough.
type tally map[string]int

func (c tally) report(r impl.Report) {
	c["code "+string('0'+rune(r.Code))]++
	for _, x := range r.Recs {
		kind := strings.Fields(recordNames)[x.Kind]
		c[kind]++
		if x.Kind == impl.RecTurn || x.Kind == impl.RecThrow && strings.HasPrefix(x.Text, "error") {
			c[kind+" "+x.Text]++
		}
	}
}

func (c tally) want(t *testing.T, least int, names string) {
	t.Helper()
	for _, name := range strings.Split(names, ", ") {
		if c[name] < least {
			t.Errorf("only %d times: %s", c[name], name)
		}
	}
	t.Log(map[string]int(c))
}

func TestReportsOfManyCodes(t *testing.T) {
	t.Parallel()
	d, seen, ops := dice(40), tally{}, map[int]int{}
	for n := range 1000 {
		c, in := d.madeCode(), d.madeInput()
		if f := impl.CheckCode(c); f.Code != 0 {
			t.Fatalf("code %d: %v", n, f)
		}
		want, got := plainRun(c, in), impl.Stand(c, in, 0, huge).Rep
		if !alike(got, want) {
			t.Fatalf("code %d: got\n%s%q %d %d\nwant\n%s%q %d %d", n, toldRecords(got), toldEnd(got), got.Ticks, got.Made, toldRecords(want), toldEnd(want), want.Ticks, want.Made)
		}
		seen.report(got)
		for _, p := range impl.Prepare(c).Protos {
			for _, q := range p.Ins {
				ops[q.Op]++
			}
		}
	}
	for op := impl.ILine; op <= impl.QDrops; op++ {
		if ops[op] == 0 {
			t.Errorf("instruction %d stands in no code", op)
		}
	}
	seen.want(t, 30, "code 0, code 1, code 2, line, call, back, throw, catch, print, turn, last, "+
		"turn resume, turn yield, turn done, turn error, turn giveup, turn gone, "+
		"throw error 1, throw error 5, throw error 6, throw error 7, throw error 8, throw error 9, throw error 10, throw error 12")
}

// Codes of instructions that were drawn one by one use registers in ways that no maker would.
func TestReportsOfDrawnCodes(t *testing.T) {
	t.Parallel()
	d, seen := dice(42), tally{}
	for n := range 12000 {
		draw := d.draw
		if n%2 == 0 {
			draw = d.near
		}
		c, in := d.codeOf(draw), d.madeInput()
		if impl.CheckCode(c).Code != 0 {
			continue
		}
		want, got := plainRun(c, in), impl.Stand(c, in, 0, huge).Rep
		if !alike(got, want) {
			t.Fatalf("code %d: got\n%s%q %d %d\nwant\n%s%q %d %d\n%s", n, toldRecords(got), toldEnd(got), got.Ticks, got.Made, toldRecords(want), toldEnd(want), want.Ticks, want.Made, impl.QuickListing(c))
		}
		seen.report(got)
	}
	seen.want(t, 10, "code 0, code 1, code 2, line, catch, throw error 1, throw error 6, throw error 7")
}

func TestMachinesOfManyCodes(t *testing.T) {
	t.Parallel()
	d, frames := dice(41), tally{}
	for n := range 120 {
		c, in := d.madeCode(), d.madeInput()
		x, moves, states := newMover(c, in, 0), impl.Moves(c, in), allStates(c)
		for k := 0; k <= moves; k++ {
			now := tally{}
			now.machine(x.m)
			rare := now["after"]+now["collect"]+now["one"]+now["gone"]+now["given"] > 0
			if d.roll(moves+1) < 5 || rare && d.roll(20) == 0 || now["gone"] > 0 || k > moves-2 {
				wantMachine(t, n, c, in, x.m, states, frames)
			}
			x.move()
		}
		if !x.m.Over || x.m.Moves != moves {
			t.Fatalf("code %d: %d moves, not %d", n, moves, x.m.Moves)
		}
	}
	frames.want(t, 15, "call, after, collect, leaving, one, gone, given, way, over, tasks")
}

// Every machine of codes that are over soon.
func TestAllMachinesOfDrawnCodes(t *testing.T) {
	t.Parallel()
	d, frames := dice(43), tally{}
	for n := range 2500 {
		c, in := d.codeOf(d.draw), d.madeInput()
		if n%2 == 0 {
			c = d.codeOf(d.near)
		}
		if impl.CheckCode(c).Code != 0 {
			continue
		}
		x, states := newMover(c, in, 0), allStates(c)
		for k := 0; k <= 60 && x.m.Moves == k; k++ {
			wantMachine(t, n, c, in, x.m, states, frames)
			x.move()
		}
	}
	frames.want(t, 40, "call, leaving, one, way, over, given")
}

// wantMachine holds the machine that Stand answers against the one that is
// wanted; nothing is written into what it is given, and nothing is shared.
func wantMachine(t *testing.T, n int, c impl.Code, in impl.Input, want impl.Machine, states []map[int]impl.State, seen tally) {
	t.Helper()
	code, input, k := copyCode(c), copyInput(in), want.Moves
	got := impl.Stand(c, in, 0, k)
	if !alike(got, want) {
		t.Fatalf("code %d, move %d:\ngot\n%s\nwant\n%s", n, k, spread(got), spread(want))
	}
	if problem := unsound(c, in, got, states); problem != "" {
		t.Fatalf("code %d, move %d: %s\n%s", n, k, problem, spread(got))
	}
	seen.machine(got)
	wantApart(t, got, c, in)
	scribble(reflect.ValueOf(&got).Elem())
	if !alike(c, code) || !alike(in, input) {
		t.Fatalf("code %d or its input was written into", n)
	}
	if again := impl.Stand(c, in, 0, k); !alike(again, want) {
		t.Fatalf("code %d, move %d: another answer the second time", n, k)
	}
}

func (c tally) machine(m impl.Machine) {
	count := func(holds bool, name string) {
		if holds {
			c[name]++
		}
	}
	count(m.Over, "over")
	count(m.Has, "given")
	count(m.Way.Kind != 0, "way")
	count(len(m.Tasks) > 1, "tasks")
	for _, task := range m.Tasks {
		for _, f := range task.Frames {
			c[[]string{"", "call", "after", "collect"}[f.Kind]]++
			count(f.Leaving, "leaving")
			count(f.One, "one")
			count(f.Way.Kind == impl.WayGone, "gone")
		}
	}
}

func allStates(c impl.Code) []map[int]impl.State {
	var out []map[int]impl.State
	for p := range c.Protos {
		states, _ := plainStates(c, p)
		out = append(out, states)
	}
	return out
}

// unsound tells what is wrong with a machine by what chapters 3, 5 and 7 promise of every one; nothing when all is well.
func unsound(c impl.Code, in impl.Input, m impl.Machine, states []map[int]impl.State) string {
	if m.Over {
		return ""
	}
	switch {
	case m.Pace == 0 && (len(m.Slots) != m.Births || m.Due != m.Births):
		return "slots are not counted"
	case m.Pace > 0 && m.Due > m.Pace || m.Due > m.Births || len(m.Slots) > m.Births:
		return "what is due"
	case m.Has && m.Way.Kind != 0 || !m.Has && len(m.Got) != 0:
		return "something is given and on its way"
	case m.Rep.Code != 0 || m.Rep.Ticks > in.Ticks || m.Since > m.Rep.Made || m.Read > len(in.Lines):
		return "the report"
	case m.Way.Kind == impl.WayGone && !m.Tasks[m.Cur].Giving:
		return "a giving up of a task that is not given up"
	}
	if problem := unsoundSlots(m); problem != "" {
		return problem
	}
	for i, task := range m.Tasks {
		if problem := unsoundTask(c, m, i, task, states); problem != "" {
			return problem
		}
	}
	return unsoundCaches(c, m)
}

// unsoundSlots asks that no number is given twice, and that things stand in the order of their making where nothing is given back.
func unsoundSlots(m impl.Machine) string {
	vers, births, zero := map[int]bool{}, map[int]bool{}, impl.Slot{}
	for i, s := range m.Slots {
		if alike(s, zero) {
			continue
		}
		switch {
		case m.Pace == 0 && s.Born != i+1 || s.Born < 1 || s.Born > m.Births || births[s.Born]:
			return "a Born"
		case s.Ver > m.Vers || (s.Kind == impl.STable) != (s.Ver > 0) || s.Ver > 0 && vers[s.Ver]:
			return "a Ver"
		case s.Kind == impl.SFree:
			return "a free slot with something in it"
		}
		vers[s.Ver], births[s.Born] = true, true
	}
	return ""
}

func unsoundTask(c impl.Code, m impl.Machine, i int, task impl.Task, states []map[int]impl.State) string {
	runs, waits := i == m.Cur, false
	for at := m.Cur; at >= 0; at = m.Tasks[at].Waiter {
		waits = waits || at == i && !runs
	}
	switch {
	case runs != (task.State == impl.RRunning) || waits != (task.State == impl.RBusy):
		return "the state of a task"
	case (task.State == impl.RNew) != (task.Fn.Kind == impl.KFn) || (task.State == impl.RNew || task.State == impl.RDone) && len(task.Frames) > 0:
		return "the fn of a task"
	case (task.Waiter >= 0) != (i > 0 && (runs || waits)):
		return "the waiter of a task"
	case task.State == impl.RLost && !alike(task, impl.Task{State: impl.RLost, Waiter: -1}):
		return "a task that is lost"
	}
	for j, f := range task.Frames {
		if f.Kind != impl.FCode {
			continue
		}
		last := runs && j == len(task.Frames)-1
		calls := !last || m.Has
		if problem := unsoundCall(c, f, calls, last && !m.Has && m.Way.Kind == 0, states[f.Proto][f.At]); problem != "" {
			return problem
		}
	}
	return ""
}

// unsoundCall looks at an open call that has called something, or whose instruction is about to be done, or that has thrown.
func unsoundCall(c impl.Code, f impl.Frame, calls, does bool, s impl.State) string {
	if f.Leaving {
		return ""
	}
	callers := []int{impl.ICall, impl.IIndex, impl.ISet, impl.IUnary, impl.IBinary, impl.IEach, impl.IEachNext}
	switch {
	case f.One || f.Saved != 0 || f.Limit != -1 || f.Way.Kind != 0:
		return "a call that is not being left"
	case calls && !slices.Contains(callers, c.Protos[f.Proto].Ins[f.At].Op):
		return "a call that waits at an instruction that calls nothing"
	case len(f.Fences) != len(s.Guards):
		return "the guards of a call"
	}
	for g, x := range f.Fences {
		if (impl.Guard{Try: x.Try, Keep: x.Keep, Handler: x.Handler}) != s.Guards[g] {
			return "a guard"
		}
	}
	for r, reg := range f.Regs {
		if does && reg.Type != s.Types[r] {
			return "the type of a register"
		}
	}
	return ""
}

// unsoundCaches asks that a cache that is true of a table leads to its key.
func unsoundCaches(c impl.Code, m impl.Machine) string {
	for p, proto := range impl.Prepare(c).Protos {
		for _, q := range proto.Ins {
			if q.Op != impl.QField {
				continue
			}
			for _, s := range m.Slots {
				if s.Ver > 0 && s.Ver == m.Caches[q.D].Ver && s.Table.Pairs[m.Caches[q.D].Place].Key != c.Protos[p].Consts[q.C] {
					return "a cache"
				}
			}
		}
	}
	return ""
}
