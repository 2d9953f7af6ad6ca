package impl

import (
	"math"
	"testing"
)

// linesCode makes three records.
func linesCode() Code {
	ins := []Ins{{Op: ILine, A: 1}, {Op: ILine, A: 2}, {Op: ILine, A: 3}, {Op: IList}, {Op: IReturn, A: -1}}
	return Code{Protos: []Proto{{Regs: 1, Ins: ins}}}
}

// The hook is called behind each record, and the run is left as soon as it wants no more.
func TestHook(t *testing.T) {
	for enough := range 5 {
		l := newLoom(linesCode(), Input{Ticks: 9, Depth: 1}, 0)
		var lines []int
		l.hook = func() bool {
			f := l.running().openCall()
			lines = append(lines, f.line)
			if len(l.rep.Recs) != len(lines) || l.rep.Recs[len(lines)-1].Line != f.line {
				t.Errorf("not at its record: %v, %+v", lines, l.rep)
			}
			return len(lines) < enough
		}
		l.run(math.MaxInt)
		if want := min(max(enough, 1), 3); len(lines) != want || len(l.rep.Recs) != want || !l.over {
			t.Errorf("%d: %v, %+v", enough, lines, l.rep)
		}
	}
}

// What is shown of one call, by its registers, the instruction at which it stands and its Limit.
func TestShown(t *testing.T) {
	box := &slot{kind: SBox, value: textValue("in a box")}
	f := &callFrame{at: 2, limit: -1, regs: []register{
		{kind: TValue, value: intValue(7)},
		{kind: TBox, box: box},
		{kind: TList, list: []Value{intValue(1)}},
		{},
		{kind: TValue},
	}}
	named := []Named{{"nil", 4, 0, 9}, {"list", 2, 0, 9}, {"none", 3, 0, 9}, {"box", 1, 2, 3}, {"early", 0, 0, 2}, {"late", 0, 3, 9}, {"never", 0, 2, 2}, {"x", 0, 1, 3}}
	for limit, want := range map[int]string{-1: "nil=nil box=in a box x=7 ", 0: "", 1: "x=7 ", 2: "box=in a box x=7 ", 4: "box=in a box x=7 ", 5: "nil=nil box=in a box x=7 "} {
		f.limit = limit
		got := ""
		for _, v := range f.shown(named) {
			got += v.Name + "=" + v.Text + " "
		}
		if got != want {
			t.Errorf("limit %d: %q, not %q", limit, got, want)
		}
	}
}
