package tests

import (
	"fmt"
	"strings"
	"testing"

	"loop.example/loom/impl"
)

// Made-up calls that are left through many guards, in a task that is resumed
// a few times and then given up.

// leaver writes the body of a fn whose first registers hold fns that can be called.
type leaver struct {
	d      *dice
	out    strings.Builder
	fns    int // registers below hold fns
	top    int // the first register that holds nothing
	catch  int // the greatest keep of a guard that catches
	scopes int
	labels int
	line   int
}

const leaverRegs = 16

func (x *leaver) say(format string, args ...any) { fmt.Fprintf(&x.out, format+"\n", args...) }

func (x *leaver) keep() int { return x.catch + x.d.roll(x.top+3-x.catch) }

// callee puts what is called into a new register, and a list of arguments behind it.
func (x *leaver) callee() {
	if x.d.roll(5) == 0 {
		x.say("const %d @%s", x.top, []string{"print", "yield", "collect", "rawget"}[x.d.roll(4)])
	} else {
		x.say("move %d %d", x.top, x.d.roll(x.fns))
	}
	x.say("list %d", x.top+1)
	for r := range min(x.fns, 3) {
		x.say("add %d %d", x.top+1, r)
	}
}

func (x *leaver) block(deep int) {
	from := x.top
	for range 1 + x.d.roll(4) {
		x.statement(deep)
	}
	for r := from; r < x.top; r++ {
		x.say("drop %d", r)
	}
	x.top = from
}

func (x *leaver) statement(deep int) {
	if x.d.roll(2) == 0 {
		x.line++
		x.say("%s %d", []string{"line", "at"}[x.d.roll(2)], x.line)
	}
	kind := x.d.roll(12)
	switch {
	case kind < 2 && x.top < leaverRegs-6:
		x.say("const %d %d", x.top, x.line)
		if kind == 1 {
			x.say("box %d %d!", x.top, x.top)
		}
		x.top++
	case kind < 4 && deep > 0:
		x.try(deep)
	case kind < 7 && deep > 0:
		x.scope(deep)
	case kind < 8 && x.scopes > 0:
		x.callee()
		x.say("defer %d! %d!", x.top, x.top+1)
	case kind == 8 && x.d.roll(3) == 0:
		x.say("list %d; add %d 0; return %d!", x.top, x.top, x.top)
	case kind == 9 && x.d.roll(2) == 0:
		x.say("throw %d", x.d.roll(x.fns))
	default:
		x.callee()
		x.say("call %d %d! %d!; drop %d", x.top, x.top, x.top+1, x.top)
	}
}

func (x *leaver) try(deep int) {
	x.labels++
	label, catch, scopes := x.labels, x.catch, x.scopes
	x.say("try >h%d %d", label, x.top)
	x.catch, x.scopes = x.top, 0
	x.block(deep - 1)
	x.catch, x.scopes = catch, scopes
	x.say("endtry; jump >e%d\nh%d:\n drop %d; drop %d\ne%d:", label, label, x.top, x.top+1, label)
}

func (x *leaver) scope(deep int) {
	x.say("scope %d", x.keep())
	x.scopes++
	for range 1 + x.d.roll(2) {
		x.callee()
		x.say("defer %d! %d!", x.top, x.top+1)
	}
	x.block(deep - 1)
	if x.d.roll(3) == 0 {
		x.say("keep %d", x.keep())
		x.block(deep - 1)
	}
	x.scopes--
	x.say("leave")
}

// leaverBody is the head and the body of a fn with this name and number of fns.
func (d *dice) leaverBody(name string, fns int) string {
	x := &leaver{d: d, fns: fns, top: fns + 1}
	x.say("proto %s line 5 params %d rest regs %d", name, fns, leaverRegs)
	x.block(3)
	x.say("list %d; return %d!", x.top, x.top)
	return x.out.String()
}

// leaverText is a text that runs such a fn in a task and by itself.
func (d *dice) leaverText() string {
	resumes := strings.Repeat("ask 6 @resume 5; show 6; drop 6; line 2;", d.roll(3))
	return `
		proto main line 1 regs 10
		  fn 0 tells; fn 1 throws; fn 2 yields; fn 3 calls; fn 4 leaves
		  ask 5 @task 4; line 1; ask 6 @resume 5 0 1 2 3; show 6; drop 6
		  ` + resumes + `
		  try >h 6; ask 6 @giveup 5; show 6; endtry; drop 6; jump >on
		h:
		  show 6 7; drop 6; drop 7
		on:
		  try >h2 6; list 6; add 6 0; add 6 1; add 6 2; add 6 3; call 6 4 6!; endtry; drop 6; jump >end
		h2:
		  drop 6; drop 7
		end:
		  list 6; return 6!
		proto tells params 1 regs 5
		  line 11; box 1 0!; get 2 1; show 2; list 3; add 3 2!; return 3!
		proto throws params 2 regs 2
		  throw 1
		proto yields params 1 rest regs 5
		  line 12; ask 2 @yield 0; show 2; return 1!
		` + d.leaverBody("calls", 3) + d.leaverBody("leaves", 4)
}

// P5 for calls that are left by an error, a return or a giving up, at every record.
func TestViewsOfLeaving(t *testing.T) {
	t.Parallel()
	d, seen := dice(65), tally{}
	for range 400 {
		source := d.leaverText()
		c, in := everyName(verified(t, source)), roomy()
		in.Ticks, in.Depth = d.pick(60, 200, 500), d.pick(4, 8, 60)
		rep, views := plainViews(c, in)
		gone := false
		for k, x := range rep.Recs {
			gone = gone && x.Kind != impl.RecTurn || x.Kind == impl.RecTurn && x.Text == "giveup"
			seen.looked(x, views[k])
			if gone {
				seen["while given up: "+strings.Fields(recordNames)[x.Kind]]++
			}
			if gone || len(rep.Recs) < 60 || d.roll(len(rep.Recs)) < 60 {
				wantView(t, source, c, in, d.pick(0, d.pace()), k, views[k])
			}
		}
	}
	seen.want(t, 30, "call, back , back error, back gone, throw, catch, print, turn giveup, turn gone, turn yield, turn done, turn error, "+
		"shown at back, shown at turn, while given up: call, while given up: throw, while given up: back, while given up: print, deep")
}
