package tests

import (
	"reflect"
	"slices"
	"strconv"
	"testing"

	"loop.example/loom/impl"
)

// plainBegin is a second reading of Begin, by the words of chapter 3: all that it does not set has no meaning yet.
func plainBegin(c impl.Code, in impl.Input, pace int) impl.Machine {
	if plainCheck(c).Code != 0 || !plainInput(in) || pace < 0 || 1000 < pace {
		return impl.Machine{}
	}
	var m impl.Machine
	m.Pace = pace
	for range plainPrepare(c).Caches {
		m.Caches = append(m.Caches, impl.Cache{Ver: 0, Place: 0})
	}
	call := impl.Frame{Kind: 1, Self: -1, Limit: -1}
	for r := range c.Protos[0].Regs {
		reg := impl.Reg{}
		if c.Protos[0].Rest && r == 0 {
			reg.Type = 3
			for i := range in.Args {
				reg.List = append(reg.List, impl.Value{Kind: 4, Str: in.Args[i]})
			}
		}
		call.Regs = append(call.Regs, reg)
	}
	m.Tasks = append(m.Tasks, impl.Task{State: 2, Waiter: -1, Frames: []impl.Frame{call}})
	return m
}

func plainInput(in impl.Input) bool {
	texts := slices.Concat(in.Args, in.Lines)
	if len(in.Args) > 200 || len(in.Lines) > 200 || slices.ContainsFunc(texts, func(s string) bool { return len(s) > 4000 }) {
		return false
	}
	return in.Ticks >= 0 && in.Ticks <= 5000 && in.Depth >= 1 && in.Depth <= 60 && in.Cells >= 0 && in.Cells <= 20000
}

// wantBegin holds the machine at its beginning against the one that is wanted.
func wantBegin(t *testing.T, name string, c impl.Code, in impl.Input, pace int, want impl.Machine) {
	t.Helper()
	if f := impl.CheckCode(c); f.Code != 0 {
		t.Fatalf("%s: %v", name, f)
	}
	if got := impl.Begin(c, in, pace); !alike(got, want) {
		t.Errorf("%s:\ngot  %+v\nwant %+v", name, got, want)
	}
}

// begun is a machine that has done nothing yet, whose text has these registers.
func begun(pace, caches int, regs ...impl.Reg) impl.Machine {
	text := impl.Frame{Kind: impl.FCode, Self: -1, Regs: regs, Limit: -1}
	return impl.Machine{
		Pace:   pace,
		Caches: make([]impl.Cache, caches),
		Tasks:  []impl.Task{{State: impl.RRunning, Frames: []impl.Frame{text}, Waiter: -1}},
	}
}

func listed(texts ...string) impl.Reg {
	r := impl.Reg{Type: impl.TList}
	for _, s := range texts {
		r.List = append(r.List, text(s))
	}
	return r
}

// resting is a code whose proto 0 has Rest.
func resting(regs int) impl.Code {
	c := bare(regs, impl.Ins{Op: impl.IReturn, A: -1})
	c.Protos[0].Rest = true
	return c
}

func TestBeginWithRest(t *testing.T) {
	none := impl.Reg{}
	wantBegin(t, "one", resting(3), input("x"), 7, begun(7, 0, listed("x"), none, none))
	wantBegin(t, "several", resting(2), input("x", "", "12", "\xff\x00"), 1, begun(1, 0, listed("x", "", "12", "\xff\x00"), none))
	wantBegin(t, "no Args", resting(2), input(), 5, begun(5, 0, listed(), none))
	wantBegin(t, "an empty one", resting(2), input(""), 5, begun(5, 0, listed(""), none))
	wantBegin(t, "one register", resting(1), input("a", "b"), 5, begun(5, 0, listed("a", "b")))
	many := make([]string, impl.MaxInput)
	for i := range many {
		many[i] = strconv.Itoa(i)
	}
	many[7] = long(impl.MaxStr)
	wantBegin(t, "most Args", resting(1), input(many...), 0, begun(0, 0, listed(many...)))
	inner := plainCode()
	inner.Protos[0].Rest = true
	wantBegin(t, "two protos", inner, input("p", "q"), 3, begun(3, 0, listed("p", "q"), none, none, none))
}

func TestBeginWithoutRest(t *testing.T) {
	for _, args := range [][]string{nil, {"x"}, {"x", "y", "z"}} {
		wantBegin(t, "one proto", bare(2, back()...), input(args...), 9, begun(9, 0, make([]impl.Reg, 2)...))
		wantBegin(t, "two protos", plainCode(), input(args...), 9, begun(9, 0, make([]impl.Reg, 4)...))
		// Nobody can return without a register, so that such a text goes on until its ticks are used up.
		wantBegin(t, "no registers", bare(0, impl.Ins{Op: impl.ITick}, impl.Ins{Op: impl.IJump}), input(args...), 9, begun(9, 0))
	}
	wantBegin(t, "most registers", bare(impl.MaxRegs, back()...), input("x"), 9, begun(9, 0, make([]impl.Reg, impl.MaxRegs)...))
}

func TestBeginHasACacheForEachField(t *testing.T) {
	c := impl.Code{Protos: []impl.Proto{fields(2), fields(0), fields(3)}}
	for p := range 2 {
		c.Protos[p].Ins = append(c.Protos[p].Ins, impl.Ins{Op: impl.IFn, A: 1, B: p + 1}, impl.Ins{Op: impl.IJump})
	}
	wantBegin(t, "five", c, input(), 4, begun(4, 5, make([]impl.Reg, 3)...))
	one := impl.Code{Protos: []impl.Proto{fields(1)}}
	wantBegin(t, "one", one, input("x"), 4, begun(4, 1, make([]impl.Reg, 3)...))
	one.Protos[0].Consts[0] = number(1)
	wantBegin(t, "no string", one, input("x"), 4, begun(4, 0, make([]impl.Reg, 3)...))
}

func TestBeginAtEveryPace(t *testing.T) {
	c, in := resting(1), input("x")
	for pace := range impl.MaxPace + 1 {
		wantBegin(t, strconv.Itoa(pace), c, in, pace, begun(pace, 0, listed("x")))
	}
	for _, pace := range []int{-1, 1001, -1000, huge, tiny} {
		if m := impl.Begin(c, in, pace); !alike(m, impl.Machine{}) {
			t.Errorf("pace %d: got %+v", pace, m)
		}
	}
}

// What the input holds beside the Args changes nothing at the beginning, as long as it is valid.
func TestBeginAtTheLimitsOfInputs(t *testing.T) {
	c := resting(1)
	lines := make([]string, impl.MaxInput)
	lines[3] = long(impl.MaxStr)
	for name, in := range map[string]impl.Input{
		"least": {Args: []string{"x"}, Depth: 1},
		"most":  {Args: []string{"x"}, Lines: lines, Ticks: impl.MaxTicks, Depth: impl.MaxDepth, Cells: impl.MaxCells},
	} {
		wantBegin(t, name, c, in, 1000, begun(1000, 0, listed("x")))
	}
	for name, in := range map[string]impl.Input{
		"the zero value":   {},
		"no depth":         {Args: []string{"x"}, Ticks: 1, Cells: 1},
		"too much depth":   {Args: []string{"x"}, Depth: impl.MaxDepth + 1},
		"too many Args":    {Args: make([]string, impl.MaxInput+1), Depth: 1},
		"too long an Arg":  {Args: []string{long(impl.MaxStr + 1)}, Depth: 1},
		"too many Lines":   {Lines: make([]string, impl.MaxInput+1), Depth: 1},
		"too long a Line":  {Lines: []string{long(impl.MaxStr + 1)}, Depth: 1},
		"ticks below 0":    {Depth: 1, Ticks: -1},
		"too many ticks":   {Depth: 1, Ticks: impl.MaxTicks + 1},
		"cells below 0":    {Depth: 1, Cells: -1},
		"too many cells":   {Depth: 1, Cells: impl.MaxCells + 1},
		"far out in Depth": {Depth: tiny},
	} {
		if m := impl.Begin(c, in, 1); !alike(m, impl.Machine{}) {
			t.Errorf("%s: got %+v", name, m)
		}
	}
}

func TestBeginOfCodesThatAreNotVerified(t *testing.T) {
	lost := plainCode()
	lost.Protos = append(lost.Protos, plainCode().Protos[0])
	params := resting(2)
	params.Protos[0].Params = 1
	for name, c := range map[string]impl.Code{
		"the zero value": {}, "no protos": {Protos: []impl.Proto{}}, "an empty proto": {Protos: make([]impl.Proto, 1)},
		"nothing to return":        bare(1, impl.Ins{Op: impl.IReturn, A: -1}),
		"no register for the rest": resting(0),
		"a text with parameters":   params,
		"a proto nobody makes":     lost,
		"a loop without a tick":    bare(0, impl.Ins{Op: impl.IJump}),
		"registers below none":     bare(tiny, back()...),
		"too many registers":       bare(impl.MaxRegs+1, back()...),
	} {
		if impl.CheckCode(c).Code == 0 {
			t.Errorf("%s is verified", name)
		}
		if m := impl.Begin(c, input("x"), 1); !alike(m, impl.Machine{}) {
			t.Errorf("%s: got %+v", name, m)
		}
	}
}

// input is one of which most are valid.
func (d *dice) input() impl.Input {
	in := impl.Input{Ticks: d.roll(100), Depth: 1 + d.roll(60), Cells: d.roll(100)}
	for range d.roll(4) {
		in.Args = append(in.Args, long(d.roll(3)))
	}
	for range d.roll(4) {
		in.Lines = append(in.Lines, long(d.roll(3)))
	}
	if d.roll(6) == 0 {
		fields := []*int{&in.Ticks, &in.Depth, &in.Cells}
		*fields[d.roll(3)] = d.pick(-1, 0, 60, 61, 5000, 5001, 20000, 20001, huge, tiny)
	}
	return in
}

func TestBeginOfManyCodes(t *testing.T) {
	d, begins, rests := dice(6), 0, 0
	for n := range 6000 {
		c, in, pace := d.codeOf(d.near), d.input(), d.pick(0, 1, 2, 999, 1000, d.roll(1000), d.pick(-1, 1001, huge, tiny))
		c.Protos[0].Rest = d.roll(2) == 0
		if d.roll(4) == 0 {
			d.spoil(&c)
		}
		codeAhead, inputAhead := copyCode(c), copyInput(in)
		got, want := impl.Begin(c, in, pace), plainBegin(codeAhead, inputAhead, pace)
		if !alike(got, want) {
			t.Fatalf("code %d, pace %d:\ngot  %+v\nwant %+v\n%+v\n%+v", n, pace, got, want, c, in)
		}
		wantApart(t, got, c, in)
		scribble(reflect.ValueOf(&got).Elem())
		if !alike(c, codeAhead) || !alike(in, inputAhead) {
			t.Fatalf("code %d or its input was written into", n)
		}
		if again := impl.Begin(c, in, pace); !alike(again, want) {
			t.Fatalf("code %d: another answer the second time", n)
		}
		if len(want.Tasks) > 0 {
			begins++
			if c.Protos[0].Rest {
				rests++
			}
		}
	}
	if begins < 1000 || rests < 300 {
		t.Errorf("only %d begin, %d of them with Rest", begins, rests)
	}
	t.Log(begins, rests)
}
