package tests

import (
	"reflect"
	"slices"
	"testing"

	"loop.example/loom/impl"
)

// Machines of many made-up codes at several paces, held against the second readings.

func (d *dice) pace() int { return d.pick(1, 1, 2, 3, 5, 9, 40, 1000) }

// Reports hang on no pace: P4, as far as Stand shows it.
func TestReportsAtPaces(t *testing.T) {
	t.Parallel()
	d, seen := dice(50), tally{}
	for n := range 120 {
		c, in := d.madeCode(), d.madeInput()
		want, moves := plainRun(c, in), impl.Moves(c, in)
		for _, pace := range []int{1, 2, 3, 40, 1000} {
			m := impl.Stand(c, in, pace, moves)
			if !m.Over || m.Moves != moves || m.Pace != pace || !alike(m.Rep, want) {
				t.Fatalf("code %d, pace %d: got\n%+v\nwant\n%+v", n, pace, m, want)
			}
			if impl.Stand(c, in, pace, moves-1).Over {
				t.Fatalf("code %d, pace %d: over ahead of %d moves", n, pace, moves)
			}
		}
		seen.report(want)
	}
	seen.want(t, 3, "code 0, code 1, code 2, last, turn resume, turn yield, turn done, turn error, turn giveup, turn gone, catch")
}

// P3 at paces above 0, P6 and P7: machines in the midst of runs.
func TestGivingBackOfManyCodes(t *testing.T) {
	t.Parallel()
	d, seen := dice(51), tally{}
	for n := range 400 {
		c, in, pace := d.madeCode(), d.madeInput(), d.pace()
		if n%10 > 0 && !eventful(impl.Stand(c, in, 0, huge).Rep) {
			continue
		}
		x, moves, states := newMover(c, in, pace), impl.Moves(c, in), allStates(c)
		for k := 0; k <= moves; k++ {
			now := tally{}
			now.given(x.m)
			rare := now["lost"]+now["after"]+now["collect"]+now["gone"] > 0
			if d.roll(moves+1) < 5 || now["gone"] > 0 && d.roll(3) == 0 || rare && d.roll(40) == 0 || k > moves-2 {
				wantGiven(t, n, c, in, x.m, states, seen)
			}
			x.move()
		}
		if !x.m.Over || x.m.Moves != moves {
			t.Fatalf("code %d: %d moves, not %d", n, moves, x.m.Moves)
		}
	}
	seen.want(t, 10, "call, after, collect, leaving, gone, given, way, over, tasks, free, dead, wants, lost, again, sleeping")
}

// eventful tells whether a run has last words, or a task that was given up.
func eventful(r impl.Report) bool {
	return slices.ContainsFunc(r.Recs, func(x impl.Rec) bool {
		return x.Kind == impl.RecLast || x.Kind == impl.RecTurn && x.Text == "giveup"
	})
}

// The same for every machine of codes that are over soon.
func TestGivingBackOfDrawnCodes(t *testing.T) {
	t.Parallel()
	d, seen := dice(52), tally{}
	for n := range 1200 {
		c, in, pace := d.codeOf(d.draw), d.madeInput(), d.pick(1, 1, 2, 3, 1000)
		if n%2 == 0 {
			c = d.codeOf(d.near)
		}
		if impl.CheckCode(c).Code != 0 {
			continue
		}
		x, states := newMover(c, in, pace), allStates(c)
		for k := 0; k <= 30 && x.m.Moves == k; k++ {
			wantGiven(t, n, c, in, x.m, states, seen)
			x.move()
		}
	}
	seen.want(t, 15, "call, leaving, way, over, given, free, dead")
}

// P8 for many codes.
func TestPeakAndMostOfManyCodes(t *testing.T) {
	t.Parallel()
	d := dice(53)
	for n := range 30 {
		c, in := d.madeCode(), d.madeInput()
		most := impl.Most(c, in)
		if want := plainMost(c, in); most != want {
			t.Fatalf("code %d: most %d, want %d", n, most, want)
		}
		for _, pace := range []int{0, 1, 2, 3, 7, 40, 1000} {
			peak := impl.Peak(c, in, pace)
			if want := plainPeak(c, in, pace); peak != want || pace > 0 && peak > most+pace || peak < most {
				t.Fatalf("code %d, pace %d: peak %d, want %d, most %d", n, pace, peak, want, most)
			}
		}
	}
}

// given counts what a machine shows of giving back.
func (c tally) given(m impl.Machine) {
	c.machine(m)
	if m.Over {
		return
	}
	alive := plainMarks(&m)
	for i, s := range m.Slots {
		switch {
		case s.Kind == impl.SFree:
			c["free"]++
		case !alive.slots[i]:
			c["dead"]++
		case s.Wants:
			c["wants"]++
		}
		if s.Born > i+1 {
			c["again"]++
		}
	}
	for i, task := range m.Tasks {
		switch {
		case task.State == impl.RLost:
			c["lost"]++
		case task.State <= impl.RWaiting && alive.tasks[i]:
			c["sleeping"]++
		}
	}
}

// wantGiven holds Stand, Alive and Canon against the machine that is wanted
// behind as many moves, at its pace; nothing is written into what they are
// given, nothing is shared, and a second call answers the same.
func wantGiven(t *testing.T, n int, c impl.Code, in impl.Input, want impl.Machine, states []map[int]impl.State, seen tally) {
	t.Helper()
	code, input, k, pace := copyCode(c), copyInput(in), want.Moves, want.Pace
	seen.given(want)
	marked := plainMarks(&want)
	canon := plainCanon(want)
	for range 1 + min(k%3, 1) {
		got := impl.Stand(c, in, pace, k)
		if !alike(got, want) {
			t.Fatalf("code %d, pace %d, move %d:\ngot\n%s\nwant\n%s", n, pace, k, spread(got), spread(want))
		}
		if problem := unsound(c, in, got, states); problem != "" {
			t.Fatalf("code %d, pace %d, move %d: %s\n%s", n, pace, k, problem, spread(got))
		}
		alive := impl.Alive(c, in, pace, k)
		if !alike(alive, marked.slots) {
			t.Fatalf("code %d, pace %d, move %d: alive %v, want %v", n, pace, k, alive, marked.slots)
		}
		shown := impl.Canon(c, in, pace, k)
		if !alike(shown, canon) {
			t.Fatalf("code %d, pace %d, move %d:\ngot\n%s\nwant\n%s", n, pace, k, spread(shown), spread(canon))
		}
		wantApart(t, got, c, in)
		wantApart(t, shown, c, in)
		scribble(reflect.ValueOf(&got).Elem())
		scribble(reflect.ValueOf(&alive).Elem())
		scribble(reflect.ValueOf(&shown).Elem())
		if !alike(c, code) || !alike(in, input) {
			t.Fatalf("code %d or its input was written into", n)
		}
	}
	other := []int{0, 1, 4, 1000}[k%4]
	if shown := impl.Canon(c, in, other, k); !alike(shown, canon) {
		t.Fatalf("code %d, paces %d and %d, move %d:\ngot\n%s\nwant\n%s", n, pace, other, k, spread(shown), spread(canon))
	}
}
