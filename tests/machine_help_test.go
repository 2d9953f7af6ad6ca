package tests

import (
	"math"
	"reflect"
	"slices"
	"testing"

	"loop.example/loom/impl"
)

// alike tells whether two answers are the same value: nil is an empty list, floats have the same bits, all NaNs are one.
func alike(a, b any) bool { return alikeParts(reflect.ValueOf(a), reflect.ValueOf(b)) }

func alikeParts(a, b reflect.Value) bool {
	switch a.Kind() {
	case reflect.Struct:
		for i := range a.NumField() {
			if !alikeParts(a.Field(i), b.Field(i)) {
				return false
			}
		}
		return true
	case reflect.Slice:
		if a.Len() != b.Len() {
			return false
		}
		for i := range a.Len() {
			if !alikeParts(a.Index(i), b.Index(i)) {
				return false
			}
		}
		return true
	case reflect.Float64:
		x, y := a.Float(), b.Float()
		return math.Float64bits(x) == math.Float64bits(y) || math.IsNaN(x) && math.IsNaN(y)
	}
	return a.Interface() == b.Interface()
}

// stretch is the memory of a list, from its first byte to behind its last one.
type stretch struct{ from, to uintptr }

// stretches are those of all lists in a value, with the room that they could still grow into.
func stretches(v reflect.Value) []stretch {
	var out []stretch
	switch v.Kind() {
	case reflect.Struct:
		for i := range v.NumField() {
			out = append(out, stretches(v.Field(i))...)
		}
	case reflect.Slice:
		if size := uintptr(v.Cap()) * v.Type().Elem().Size(); size > 0 {
			out = append(out, stretch{v.Pointer(), v.Pointer() + size})
		}
		for i := range v.Len() {
			out = append(out, stretches(v.Index(i))...)
		}
	}
	return out
}

// wantApart asks that no two lists of an answer share memory with each other, and none with one of what was given.
func wantApart(t *testing.T, answer any, given ...any) {
	t.Helper()
	mine := stretches(reflect.ValueOf(answer))
	var others []stretch
	for _, x := range given {
		others = append(others, stretches(reflect.ValueOf(x))...)
	}
	for i, x := range mine {
		for _, y := range slices.Concat(mine[i+1:], others) {
			if x.from < y.to && y.from < x.to {
				t.Fatalf("memory is shared: %v, given %v", answer, given)
			}
		}
	}
}

// scribble puts something else into every number, text and flag of an answer.
func scribble(v reflect.Value) {
	switch v.Kind() {
	case reflect.Struct:
		for i := range v.NumField() {
			scribble(v.Field(i))
		}
	case reflect.Slice:
		for i := range v.Len() {
			scribble(v.Index(i))
		}
	case reflect.Int, reflect.Int64:
		v.SetInt(v.Int() ^ 0x55)
	case reflect.String:
		v.SetString(v.String() + "!")
	case reflect.Bool:
		v.SetBool(!v.Bool())
	}
}

func copyInput(in impl.Input) impl.Input {
	in.Args, in.Lines = slices.Clone(in.Args), slices.Clone(in.Lines)
	return in
}

// input is a valid one with these Args.
func input(args ...string) impl.Input {
	return impl.Input{Args: args, Lines: []string{"first", ""}, Ticks: 50, Depth: 5, Cells: 40}
}
