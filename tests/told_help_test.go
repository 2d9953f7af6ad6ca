package tests

import (
	"fmt"
	"strconv"
	"strings"
	"testing"

	"loop.example/loom/impl"
)

// What a machine has in its hands, as a text of one line, so that the moves
// of a run can be written out: the frames of the running task, the outermost
// first, with | between them, then what is given or on its way.
//
//	f@3:12 [. 7 b0 (1 2)] {t2>9 s3 s4*2}    an open call of f at instruction 3, line at hand 12, its registers and guards
//	<error 7 saved 12 limit 4>              behind it: how it is being left (one, return .., error .., gone)
//	after first, collect, collect 1 T3 F2   the other frames
//	given .., way ..                        what is given, what is on its way
//
// T3, F2, K1, @print, "a" are a table, a fn, a task, a builtin, a string.

func toldValue(v impl.Value) string {
	switch v.Kind {
	case impl.KStr:
		return strconv.Quote(v.Str)
	case impl.KTable, impl.KFn, impl.KTask:
		return string(".....TFK"[v.Kind]) + strconv.Itoa(v.Ref)
	case impl.KBuiltin:
		return "@" + builtinNames()[v.Num]
	}
	return valText(v)
}

func toldValues(vs []impl.Value) string {
	var out []string
	for _, v := range vs {
		out = append(out, toldValue(v))
	}
	return strings.Join(out, " ")
}

func toldRegs(regs []impl.Reg) string {
	var out []string
	for _, r := range regs {
		switch r.Type {
		case impl.TNone:
			out = append(out, ".")
		case impl.TValue:
			out = append(out, toldValue(r.Value))
		case impl.TBox:
			out = append(out, "b"+strconv.Itoa(r.Box))
		case impl.TList:
			out = append(out, "("+toldValues(r.List)+")")
		}
	}
	return "[" + strings.Join(out, " ") + "]"
}

func toldFences(fences []impl.Fence) string {
	var out []string
	for _, x := range fences {
		switch {
		case x.Try:
			out = append(out, fmt.Sprintf("t%d>%d", x.Keep, x.Handler))
		case len(x.Defers) > 0:
			out = append(out, fmt.Sprintf("s%d*%d", x.Keep, len(x.Defers)))
		default:
			out = append(out, fmt.Sprintf("s%d", x.Keep))
		}
	}
	if len(out) == 0 {
		return ""
	}
	return " {" + strings.Join(out, " ") + "}"
}

func toldWay(w impl.Way) string {
	return strings.TrimSpace([]string{"", "return", "error", "gone"}[w.Kind] + " " + toldValues(w.Vals))
}

func toldFrame(c impl.Code, f impl.Frame) string {
	switch f.Kind {
	case impl.FAfter:
		return "after " + []string{"", "first", "truth", "not", "drop"}[f.Then]
	case impl.FCollect:
		if f.Round {
			return fmt.Sprintf("collect %d %s", f.Step, toldValues(f.Vals))
		}
		return "collect"
	}
	out := fmt.Sprintf("%s@%d:%d %s%s", c.Protos[f.Proto].Name, f.At, f.Line, toldRegs(f.Regs), toldFences(f.Fences))
	if f.Leaving {
		how := toldWay(f.Way)
		if f.One {
			how = "one"
		}
		out += fmt.Sprintf(" <%s saved %d", how, f.Saved)
		if f.Limit >= 0 {
			out += fmt.Sprintf(" limit %d", f.Limit)
		}
		out += ">"
	}
	return out
}

func toldMachine(c impl.Code, m impl.Machine) string {
	if m.Over {
		return strings.TrimSpace("over " + toldEnd(m.Rep))
	}
	var frames []string
	for _, f := range m.Tasks[m.Cur].Frames {
		frames = append(frames, toldFrame(c, f))
	}
	out := strings.Join(frames, " | ")
	if m.Cur > 0 {
		out = fmt.Sprintf("K%d: %s", m.Cur, out)
	}
	if m.Has {
		out += " given " + toldValues(m.Got)
	}
	if m.Way.Kind != 0 {
		out += " way " + toldWay(m.Way)
	}
	return strings.Join(strings.Fields(out), " ")
}

// wantMoves holds the machine behind each move of a run, from number from on, against those that are wanted, one a line.
func wantMoves(t *testing.T, name, source string, in impl.Input, from int, want string) {
	t.Helper()
	c := verified(t, source)
	var got []string
	for n := from; n <= impl.Moves(c, in); n++ {
		got = append(got, toldMachine(c, impl.Stand(c, in, 0, n)))
	}
	var lines []string
	for _, line := range strings.Split(want, "\n") {
		if line = strings.TrimSpace(line); line != "" {
			lines = append(lines, line)
		}
	}
	for i := range max(len(got), len(lines)) {
		switch {
		case i >= len(lines):
			t.Errorf("%s: move %d more: %s", name, from+i, got[i])
		case i >= len(got):
			t.Errorf("%s: move %d is missing: %s", name, from+i, lines[i])
		case got[i] != lines[i]:
			t.Errorf("%s: move %d:\ngot  %s\nwant %s", name, from+i, got[i], lines[i])
		}
	}
	wantPaces(t, name, c, in)
}
