package tests

import (
	"testing"

	"loop.example/loom/impl"
)

func TestInputLimits(t *testing.T) {
	many := make([]string, impl.MaxInput+1)
	for _, x := range []struct {
		name  string
		spoil func(in *impl.Input)
		ok    bool
	}{
		{"as it is", func(in *impl.Input) {}, true},
		{"most args", func(in *impl.Input) { in.Args = many[1:] }, true},
		{"too many args", func(in *impl.Input) { in.Args = many }, false},
		{"most lines", func(in *impl.Input) { in.Lines = many[1:] }, true},
		{"too many lines", func(in *impl.Input) { in.Lines = many }, false},
		{"longest arg", func(in *impl.Input) { in.Args = []string{"", long(impl.MaxStr)} }, true},
		{"long arg", func(in *impl.Input) { in.Args = []string{"", long(impl.MaxStr + 1)} }, false},
		{"longest line", func(in *impl.Input) { in.Lines = []string{"", long(impl.MaxStr)} }, true},
		{"long line", func(in *impl.Input) { in.Lines = []string{"", long(impl.MaxStr + 1)} }, false},
		{"no ticks", func(in *impl.Input) { in.Ticks = 0 }, true},
		{"ticks below 0", func(in *impl.Input) { in.Ticks = -1 }, false},
		{"most ticks", func(in *impl.Input) { in.Ticks = impl.MaxTicks }, true},
		{"too many ticks", func(in *impl.Input) { in.Ticks = impl.MaxTicks + 1 }, false},
		{"ticks far below 0", func(in *impl.Input) { in.Ticks = tiny }, false},
		{"least depth", func(in *impl.Input) { in.Depth = 1 }, true},
		{"no depth", func(in *impl.Input) { in.Depth = 0 }, false},
		{"depth far below 0", func(in *impl.Input) { in.Depth = tiny }, false},
		{"greatest depth", func(in *impl.Input) { in.Depth = impl.MaxDepth }, true},
		{"too great a depth", func(in *impl.Input) { in.Depth = impl.MaxDepth + 1 }, false},
		{"no cells", func(in *impl.Input) { in.Cells = 0 }, true},
		{"cells below 0", func(in *impl.Input) { in.Cells = -1 }, false},
		{"most cells", func(in *impl.Input) { in.Cells = impl.MaxCells }, true},
		{"too many cells", func(in *impl.Input) { in.Cells = impl.MaxCells + 1 }, false},
		{"cells far out", func(in *impl.Input) { in.Cells = huge }, false},
	} {
		in := impl.Input{Args: []string{"a"}, Lines: []string{"\xff"}, Ticks: 10, Depth: 5, Cells: 20}
		x.spoil(&in)
		if got := impl.InputOk(in); got != x.ok {
			t.Errorf("%s: got %v", x.name, got)
		}
	}
	if impl.InputOk(impl.Input{}) {
		t.Error("the zero value has no depth")
	}
}
