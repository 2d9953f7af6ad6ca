package impl

import (
	"math/rand"
	"reflect"
	"slices"
	"testing"
)

// What carries the weight of chapter 5, asked from inside: the queue, the
// heap, and the walk, which may be left at any thing.

func TestQueue(t *testing.T) {
	var q queue[string]
	var got []string
	for _, x := range []string{"a", "b", "", "c", "", "", "d", ""} {
		if x != "" {
			q.push(x)
		} else {
			got = append(got, q.pop())
		}
	}
	if !slices.Equal(got, []string{"a", "b", "c", "d"}) || q.count() != 0 {
		t.Error(got, q.count())
	}
}

func TestHeap(t *testing.T) {
	r := rand.New(rand.NewSource(5))
	for range 200 {
		var h heap[int]
		var in []int
		for range r.Intn(60) {
			if len(in) > 0 && r.Intn(3) == 0 {
				least := slices.Min(in)
				in = slices.Delete(in, slices.Index(in, least), slices.Index(in, least)+1)
				if got := h.pop(); got != least {
					t.Fatalf("got %d, want %d", got, least)
				}
			} else {
				x := r.Intn(40)
				in = append(in, x)
				h.push(x)
			}
			if h.count() != len(in) {
				t.Fatalf("%d in it, want %d", h.count(), len(in))
			}
		}
	}
}

func TestRoom(t *testing.T) {
	m := &machine{}
	var held []*slot
	for range 6 {
		held = append(held, m.hold(&slot{kind: SBox}))
	}
	m.keepSlots([]*slot{nil, held[1], nil, held[3], nil, nil})
	if len(m.slots) != 4 || m.free.count() != 2 || m.used() != 2 {
		t.Fatal(m.slots, m.free)
	}
	var places []int
	for range 4 {
		s := m.hold(&slot{kind: SBox})
		if m.slots[s.place] != s {
			t.Error(s)
		}
		places = append(places, s.place)
	}
	if !slices.Equal(places, []int{0, 2, 4, 5}) || m.births != 10 || m.due != 10 || m.used() != 6 {
		t.Error(places, m.births, m.due)
	}
}

// places are those of the slots of the first n things that a walk meets; all when n is below 0.
func (m *machine) places(n int) []int {
	var out []int
	for x := range m.met() {
		if n == 0 {
			break
		}
		n--
		if !x.task {
			out = append(out, x.ref)
		}
	}
	return out
}

func TestWalkIsLeft(t *testing.T) {
	m, _ := full()
	for i, s := range m.slots {
		if s != nil {
			s.place = i
		}
	}
	all := m.places(-1)
	if !slices.Equal(all, []int{3, 5, 2, 1}) {
		t.Error(all)
	}
	for n := range 8 {
		if got := m.places(n); len(got) > n || !slices.Equal(got, all[:len(got)]) {
			t.Error(n, got)
		}
	}
}

// The same things in other places: all that names one names its new place.
func TestFaceInAnotherOrder(t *testing.T) {
	m, _ := full()
	m.way, m.got = Way{WayError, []Value{fn3}, "x"}, []Value{table3, yes}
	order := []*slot{m.slots[5], m.slots[3], m.slots[2], m.slots[1]}
	got := m.faceIn(order)
	table1, fn1 := Value{Kind: KTable, Ref: 1}, Value{Kind: KFn, Ref: 1}
	wantSlots := []Slot{
		{Kind: SBox, Born: 3, Value: intValue(8)},
		{Kind: SFn, Born: 4, Proto: 2, Ups: []int{0, 0}},
		{Kind: STable, Born: 2, Ver: 2, Of: 3, Wants: true},
		{Kind: STable, Born: 1, Ver: 3, Of: -1, Table: Table{[]Pair{{textValue("last"), fn1, 1}}, 1}},
	}
	if !reflect.DeepEqual(got.Slots, wantSlots) {
		t.Errorf("%+v", got.Slots)
	}
	call := got.Tasks[2].Frames[0]
	for name, same := range map[string]bool{
		"given":     reflect.DeepEqual(got.Got, []Value{table1, yes}),
		"way":       reflect.DeepEqual(got.Way, Way{WayError, []Value{fn1}, "x"}),
		"collect":   reflect.DeepEqual(got.Tasks[0].Frames[1].Vals, []Value{table1, fn1}),
		"fn":        got.Tasks[1].Fn == fn1,
		"self":      call.Self == 1 && got.Tasks[0].Frames[0].Self == -1,
		"registers": call.Regs[1].Value == table1 && call.Regs[2].Box == 0,
		"kept":      reflect.DeepEqual(call.Fences[1].Defers[1].Vals, []Value{fn1}),
	} {
		if !same {
			t.Errorf("%s: %+v", name, got)
		}
	}
}
