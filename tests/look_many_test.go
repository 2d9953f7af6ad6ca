package tests

import (
	"slices"
	"strings"
	"testing"

	"loop.example/loom/impl"
)

// Reports and views of many made-up codes, held against plain stepping.

// P4 at every pace.
func TestRunsOfManyCodes(t *testing.T) {
	t.Parallel()
	d, seen := dice(60), tally{}
	for n := range 300 {
		c, in := d.madeCode(), d.madeInput()
		want := plainRun(c, in)
		for _, pace := range append(paces(), d.pace()) {
			if got := impl.RunLoom(c, in, pace); !alike(got, want) {
				t.Fatalf("code %d, pace %d: got\n%s%+v\nwant\n%s%+v", n, pace, toldRecords(got), got, toldRecords(want), want)
			}
		}
		seen.report(want)
	}
	seen.want(t, 5, "code 0, code 1, code 2, line, call, back, throw, catch, print, turn, last, "+
		"turn resume, turn yield, turn done, turn error, turn giveup, turn gone, "+
		"throw error 1, throw error 5, throw error 6, throw error 7, throw error 8, throw error 9, throw error 10, throw error 12")
}

// looked counts what a view has shown.
func (c tally) looked(rec impl.Rec, v impl.View) {
	kind := strings.Fields(recordNames)[rec.Kind]
	c[kind]++
	if rec.Kind == impl.RecBack || rec.Kind == impl.RecTurn {
		c[kind+" "+rec.Text]++
	}
	vars := 0
	for _, call := range v.Calls {
		vars += len(call.Vars)
	}
	if vars > 0 {
		c["shown at "+kind]++
	}
	if len(v.Calls) > 2 {
		c["deep"]++
	}
}

// P5: at records of each kind, with names that hold here and there.
func TestViewsOfManyCodes(t *testing.T) {
	t.Parallel()
	d, seen := dice(61), tally{}
	for n := range 250 {
		c, in := d.madeCode(), d.madeInput()
		if n%2 == 0 {
			c = d.someNames(c)
		} else {
			c = everyName(c)
		}
		rep, views := plainViews(c, in)
		for range 12 {
			if len(views) == 0 {
				break
			}
			k, pace := d.roll(len(views)), d.pick(0, d.pace())
			rec := rep.Recs[k]
			wantView(t, toldRecords(impl.Report{Recs: rep.Recs[k : k+1]}), c, in, pace, k, views[k])
			seen.looked(rec, views[k])
		}
		wantView(t, "behind the last", c, in, d.pace(), len(views), impl.View{})
		if n%10 == 0 {
			wantUntouched(t, "made", c, in, d.pace(), d.roll(len(views)+1))
		}
	}
	seen.want(t, 5, "line, call, back, throw, catch, print, turn, last, back , back error, deep, "+
		"shown at line, shown at call, shown at back, shown at throw, shown at catch, shown at print, shown at turn, shown at last, "+
		"turn resume, turn yield, turn done, turn error")
}

// The records of which there are few: of tasks that are given up and of last words.
func TestViewsOfRareRecords(t *testing.T) {
	t.Parallel()
	d, seen := dice(62), tally{}
	for n := range 900 {
		c, in := d.madeCode(), d.madeInput()
		if !eventful(impl.RunLoom(c, in, 0)) {
			continue
		}
		c = everyName(c)
		if n%2 == 0 {
			c = d.someNames(c)
		}
		rep, views := plainViews(c, in)
		gone := false
		for k, x := range rep.Recs {
			gone = x.Kind == impl.RecTurn && x.Text == "giveup" || gone && !(x.Kind == impl.RecTurn && x.Text == "gone")
			if gone || x.Kind == impl.RecTurn && x.Text == "gone" || x.Kind == impl.RecLast && d.roll(5) == 0 || x.Kind == impl.RecCatch && x.Line == 0 && d.roll(5) == 0 {
				wantView(t, "rare", c, in, d.pick(0, d.pace()), k, views[k])
				seen.looked(x, views[k])
			}
		}
	}
	seen.want(t, 10, "turn giveup, turn gone, back gone, last, catch, shown at last, shown at catch")
}

// Every view of codes of instructions that were drawn one by one, at every pace.
func TestViewsOfDrawnCodes(t *testing.T) {
	t.Parallel()
	d, seen := dice(63), tally{}
	for n := range 4000 {
		draw := d.draw
		if n%2 == 0 {
			draw = d.near
		}
		c, in := d.codeOf(draw), d.madeInput()
		if impl.CheckCode(c).Code != 0 {
			continue
		}
		in.Ticks = min(in.Ticks, 40)
		rep, views := plainViews(everyName(c), in)
		if len(views) == 0 {
			continue
		}
		for k, x := range rep.Recs {
			seen.looked(x, views[k])
		}
		wantViews(t, "drawn", everyName(c), in)
	}
	seen.want(t, 10, "line, throw, catch, shown at line, shown at throw, shown at catch")
}

// P11 for many codes: any allowance below what a run uses.
func TestAllowancesOfManyCodes(t *testing.T) {
	t.Parallel()
	d := dice(64)
	for n := range 150 {
		c, in := d.madeCode(), d.madeInput()
		whole := impl.RunLoom(c, in, 0)
		for range 6 {
			less, pace := in, d.pick(0, d.pace())
			less.Ticks = d.roll(whole.Ticks + 1)
			got := impl.RunLoom(c, less, pace)
			if less.Ticks == whole.Ticks {
				if !alike(got, whole) {
					t.Fatalf("code %d, pace %d: with just %d ticks %+v", n, pace, less.Ticks, got)
				}
				continue
			}
			wantFirst(t, got, whole, less.Ticks)
		}
	}
}

// wantFirst asks that a report with t ticks is the first part of a whole one.
func wantFirst(t *testing.T, got, whole impl.Report, ticks int) {
	t.Helper()
	rest := got
	rest.Recs, rest.Made = nil, 0
	if !alike(rest, impl.Report{Code: 2, Ticks: ticks}) {
		t.Fatalf("%d ticks: %+v", ticks, got)
	}
	if len(got.Recs) > len(whole.Recs) || !slices.Equal(got.Recs, whole.Recs[:len(got.Recs)]) || got.Made > whole.Made {
		t.Fatalf("%d ticks: made %d, records\n%sof %d, records\n%s", ticks, got.Made, toldRecords(got), whole.Made, toldRecords(whole))
	}
}
