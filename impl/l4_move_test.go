package impl

import (
	"errors"
	"testing"
)

// What no run shows: how errors of the language are passed up, and what a run is left by.

func TestThrown(t *testing.T) {
	for want, err := range map[string]error{"error 6": failure(ErrCall), "x": thrown{value: textValue("x")}, "nil": thrown{}} {
		var got thrown
		if err.Error() != want || !errors.As(errors.Join(errors.New("by the way"), err), &got) || got != err {
			t.Errorf("%v: got %v", want, err)
		}
	}
	if failure(0) != nil {
		t.Error("code 0 is no failure")
	}
}

// smallLoom has two instructions to do.
func smallLoom() *loom {
	c := Code{Protos: []Proto{{Regs: 1, Ins: []Ins{{Op: IList}, {Op: IReturn, A: -1}}}}}
	return newLoom(c, Input{Depth: 1}, 0)
}

func TestRunIsLeft(t *testing.T) {
	l := smallLoom()
	if l.run(3); l.over || l.moves != 3 {
		t.Error("over ahead of its last move")
	}
	if l.run(1); !l.over || l.moves != 4 {
		t.Error("not over behind its last move")
	}
}

// A fault of the program's own is no end of a run.
func TestRunPassesOtherPanics(t *testing.T) {
	l := smallLoom()
	l.actions[IList].do = func(*loom, *callFrame, QIns) error { panic("a fault") }
	defer func() {
		if r := recover(); r != "a fault" || l.over {
			t.Error(r, l.over)
		}
	}()
	l.run(1)
}

// Each instruction and each builtin has what it does.
func TestEveryActionIsThere(t *testing.T) {
	l := smallLoom()
	for op := ILine; op <= QDrops; op++ {
		if l.actions[op].do == nil {
			t.Error("instruction", op)
		}
	}
	for b := range Builtins {
		if l.builtins[b] == nil {
			t.Error("builtin", b)
		}
	}
}
