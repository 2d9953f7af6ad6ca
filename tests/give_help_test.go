package tests

import (
	"fmt"
	"strings"
	"testing"

	"loop.example/loom/impl"
)

// toldSlots tells the slots of a machine, one behind the other: what each
// holds (T, F, B: a table, a fn, a box) with its Born, and a - behind it when
// it is not alive; a free one is a dot.
func toldSlots(c impl.Code, in impl.Input, pace, n int) string {
	m, alive := impl.Stand(c, in, pace, n), impl.Alive(c, in, pace, n)
	if len(alive) != len(m.Slots) {
		return fmt.Sprintf("%d slots, but %v", len(m.Slots), alive)
	}
	var out []string
	for i, s := range m.Slots {
		told := "."
		if s.Kind != impl.SFree {
			told = fmt.Sprintf("%c%d", ".TFB"[s.Kind], s.Born)
		}
		if s.Kind != impl.SFree && !alive[i] || s.Kind == impl.SFree && alive[i] {
			told += "-"
		}
		out = append(out, told)
	}
	return strings.Join(out, " ")
}

// toldTasks tells the states of the tasks of a machine.
func toldTasks(m impl.Machine) string {
	var out []string
	for _, t := range m.Tasks {
		out = append(out, strings.Fields("new waiting running busy done lost")[t.State])
	}
	return strings.Join(out, " ")
}

// wantSlots holds the slots behind the moves of a run, from number from on, against those that are wanted, one move a line.
func wantSlots(t *testing.T, name, source string, pace, from int, want string) {
	t.Helper()
	c := verified(t, source)
	lines := strings.Split(strings.TrimSpace(want), "\n")
	for i, line := range lines {
		line = strings.TrimSpace(line)
		if line == "none" {
			line = ""
		}
		if got := toldSlots(c, roomy(), pace, from+i); got != line {
			t.Errorf("%s, pace %d, move %d: got %q, want %q (%s)", name, pace, from+i, got, line, toldMachine(c, impl.Stand(c, roomy(), pace, from+i)))
		}
	}
	wantPaces(t, name, c, roomy())
}

// moveAt is the number of moves behind which the call of a proto stands at an instruction for the first time, -1 when it never does.
func moveAt(c impl.Code, in impl.Input, proto, at int) int {
	for n := range impl.Moves(c, in) {
		m := impl.Stand(c, in, 0, n)
		frames := m.Tasks[m.Cur].Frames
		if len(frames) == 0 {
			continue
		}
		if f := frames[len(frames)-1]; f.Kind == impl.FCode && f.Proto == proto && f.At == at {
			return n
		}
	}
	return -1
}

// paces are those that short runs are stood at.
func paces() []int { return []int{0, 1, 2, 3, 40, 1000} }

// wantPaces holds all that chapters 4 and 5 say of a run against the second
// readings, at every number of moves and at several paces.
func wantPaces(t *testing.T, name string, c impl.Code, in impl.Input) {
	t.Helper()
	moves, most := impl.Moves(c, in), plainMost(c, in)
	if got := impl.Most(c, in); got != most {
		t.Errorf("%s: most %d, want %d", name, got, most)
	}
	var canons []impl.Machine
	for _, pace := range paces() {
		x := newMover(c, in, pace)
		for n := range moves + 2 {
			if got := impl.Stand(c, in, pace, n); !alike(got, x.m) {
				t.Fatalf("%s, pace %d, move %d:\ngot  %+v\nwant %+v", name, pace, n, got, x.m)
			}
			if got, want := impl.Alive(c, in, pace, n), plainMarks(&x.m).slots; !alike(got, want) {
				t.Fatalf("%s, pace %d, move %d: alive %v, want %v", name, pace, n, got, want)
			}
			if len(canons) == n {
				canons = append(canons, plainCanon(x.m))
			}
			if got := impl.Canon(c, in, pace, n); !alike(got, canons[n]) {
				t.Fatalf("%s, pace %d, move %d:\ngot  %+v\nwant %+v", name, pace, n, got, canons[n])
			}
			x.move()
		}
		if got := impl.Peak(c, in, pace); got != x.peak || pace > 0 && got > most+pace {
			t.Errorf("%s, pace %d: peak %d, want %d; most %d", name, pace, got, x.peak, most)
		}
	}
}
