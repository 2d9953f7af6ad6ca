package tests

import (
	"reflect"
	"slices"

	"loop.example/loom/impl"
)

// A second reading of chapter 5, on the plain data of chapter 3: what is alive
// is marked until nothing more is, and Canon names slots anew wherever they
// are named.

// marks are what of a machine is known to be alive.
type marks struct {
	m            *impl.Machine
	slots, tasks []bool
	more         bool // something was marked
}

func plainMarks(m *impl.Machine) *marks {
	k := &marks{m: m, slots: make([]bool, len(m.Slots)), tasks: make([]bool, len(m.Tasks))}
	for k.more = true; k.more; {
		k.more = false
		k.round()
	}
	return k
}

func (k *marks) mark(list []bool, at int) {
	k.more = k.more || !list[at]
	list[at] = true
}

func (k *marks) values(vs ...impl.Value) {
	for _, v := range vs {
		switch v.Kind {
		case impl.KTable, impl.KFn:
			k.mark(k.slots, v.Ref)
		case impl.KTask:
			k.mark(k.tasks, v.Ref)
		}
	}
}

// round marks what is alive of itself, and what is named by what is marked.
func (k *marks) round() {
	k.values(k.m.Got...)
	k.values(k.m.Way.Vals...)
	for i, t := range k.m.Tasks {
		if t.State == impl.RRunning || t.State == impl.RBusy {
			k.mark(k.tasks, i)
		}
		if k.tasks[i] && t.State != impl.RDone && t.State != impl.RLost {
			k.task(t)
		}
	}
	for i, s := range k.m.Slots {
		if s.Wants {
			k.mark(k.slots, i)
		}
		if !k.slots[i] {
			continue
		}
		if s.Kind == impl.STable && s.Of >= 0 {
			k.mark(k.slots, s.Of)
		}
		for _, p := range s.Table.Pairs {
			k.values(p.Key, p.Val)
		}
		for _, up := range s.Ups {
			k.mark(k.slots, up)
		}
		k.values(s.Value)
	}
}

func (k *marks) task(t impl.Task) {
	k.values(t.Fn)
	k.values(t.Dropped...)
	for _, f := range t.Frames {
		if f.Kind == impl.FCode && f.Self >= 0 {
			k.mark(k.slots, f.Self)
		}
		for _, r := range f.Regs {
			k.values(r.Value)
			k.values(r.List...)
			if r.Type == impl.TBox {
				k.mark(k.slots, r.Box)
			}
		}
		k.values(f.Vals...)
		k.values(f.Way.Vals...)
		for _, x := range f.Fences {
			for _, d := range x.Defers {
				k.values(d.Vals...)
			}
		}
	}
}

// plainGiveBack makes free what is not alive.
func plainGiveBack(m *impl.Machine) {
	k := plainMarks(m)
	last := 0
	for i := range m.Slots {
		if k.slots[i] {
			last = i + 1
		} else {
			m.Slots[i] = impl.Slot{}
		}
	}
	m.Slots = m.Slots[:last]
	for i, t := range m.Tasks {
		if t.State <= impl.RWaiting && !k.tasks[i] {
			m.Tasks[i] = impl.Task{State: impl.RLost, Waiter: -1}
		}
	}
	m.Due = 0
}

// walker is the walk of Canon: the slots that were met, and the line of those that are looked into.
type walker struct {
	m     impl.Machine
	slots []int
	line  []impl.Value
}

func (w *walker) value(v impl.Value) {
	if v.Kind < impl.KTable || v.Kind > impl.KTask || slices.Contains(w.line, v) {
		return
	}
	if v.Kind != impl.KTask {
		w.slots = append(w.slots, v.Ref)
	}
	w.line = append(w.line, v)
}

func (w *walker) values(vs []impl.Value) {
	for _, v := range vs {
		w.value(v)
	}
}

func (w *walker) box(at int) {
	if !slices.Contains(w.slots, at) {
		w.slots = append(w.slots, at)
		w.value(w.m.Slots[at].Value)
	}
}

func (w *walker) task(t impl.Task) {
	w.value(t.Fn)
	w.values(t.Dropped)
	for _, f := range t.Frames {
		if f.Kind == impl.FCode && f.Self >= 0 {
			w.value(impl.Value{Kind: impl.KFn, Ref: f.Self})
		}
		for _, r := range f.Regs {
			switch r.Type {
			case impl.TValue:
				w.value(r.Value)
			case impl.TList:
				w.values(r.List)
			case impl.TBox:
				w.box(r.Box)
			}
		}
		w.values(f.Vals)
		w.values(f.Way.Vals)
		for _, x := range f.Fences {
			for _, d := range x.Defers {
				w.values(d.Vals)
			}
		}
	}
}

// walk meets all that is alive.
func (w *walker) walk() {
	for at := w.m.Cur; at >= 0; at = w.m.Tasks[at].Waiter {
		w.task(w.m.Tasks[at])
	}
	w.values(w.m.Got)
	w.values(w.m.Way.Vals)
	for born := range w.m.Births + 1 {
		for i, s := range w.m.Slots {
			if s.Wants && s.Born == born {
				w.value(impl.Value{Kind: impl.KTable, Ref: i})
			}
		}
	}
	for i := 0; i < len(w.line); i++ {
		v := w.line[i]
		switch v.Kind {
		case impl.KTask:
			if t := w.m.Tasks[v.Ref]; t.State == impl.RNew || t.State == impl.RWaiting {
				w.task(t)
			}
		case impl.KFn:
			for _, up := range w.m.Slots[v.Ref].Ups {
				w.box(up)
			}
		case impl.KTable:
			s := w.m.Slots[v.Ref]
			if s.Of >= 0 {
				w.value(impl.Value{Kind: impl.KTable, Ref: s.Of})
			}
			for _, p := range s.Table.Pairs {
				w.value(p.Key)
				w.value(p.Val)
			}
		}
	}
}

// plainCanon changes nothing in the machine that it is given.
func plainCanon(m impl.Machine) impl.Machine {
	m = cloned(reflect.ValueOf(m)).Interface().(impl.Machine)
	m.Pace = 0
	if m.Over {
		return m
	}
	plainGiveBack(&m)
	w := walker{m: m}
	w.walk()
	to := make([]int, len(m.Slots))
	for i := range to {
		to[i] = -7 // none that is alive is named so
	}
	slots := []impl.Slot{}
	for i, at := range w.slots {
		to[at] = i
		slots = append(slots, m.Slots[at])
	}
	m.Slots = slots
	renamed(reflect.ValueOf(&m).Elem(), to)
	return m
}

// renamed changes all names of slots in a value.
func renamed(v reflect.Value, to []int) {
	if !v.CanAddr() {
		return
	}
	switch x := v.Addr().Interface().(type) {
	case *impl.Value:
		if x.Kind == impl.KTable || x.Kind == impl.KFn {
			x.Ref = to[x.Ref]
		}
		return
	case *impl.Reg:
		if x.Type == impl.TBox {
			x.Box = to[x.Box]
		}
	case *impl.Frame:
		if x.Kind == impl.FCode && x.Self >= 0 {
			x.Self = to[x.Self]
		}
	case *impl.Slot:
		if x.Kind == impl.STable && x.Of >= 0 {
			x.Of = to[x.Of]
		}
		for i, up := range x.Ups {
			x.Ups[i] = to[up]
		}
	}
	switch v.Kind() {
	case reflect.Struct:
		for i := range v.NumField() {
			renamed(v.Field(i), to)
		}
	case reflect.Slice:
		for i := range v.Len() {
			renamed(v.Index(i), to)
		}
	}
}

// cloned is a value with lists of its own.
func cloned(v reflect.Value) reflect.Value {
	out := reflect.New(v.Type()).Elem()
	out.Set(v)
	switch v.Kind() {
	case reflect.Struct:
		for i := range v.NumField() {
			out.Field(i).Set(cloned(v.Field(i)))
		}
	case reflect.Slice:
		if v.Len() == 0 {
			out.SetZero()
			break
		}
		out.Set(reflect.MakeSlice(v.Type(), v.Len(), v.Len()))
		for i := range v.Len() {
			out.Index(i).Set(cloned(v.Index(i)))
		}
	}
	return out
}

// plainPeak and plainMost go through a run for what Peak and Most tell of it.
func plainPeak(c impl.Code, in impl.Input, pace int) int {
	x := newMover(c, in, pace)
	for !x.m.Over {
		x.move()
	}
	return x.peak
}

func plainMost(c impl.Code, in impl.Input) int {
	most := 0
	for x := newMover(c, in, 0); !x.m.Over; x.move() {
		count := 0
		for _, alive := range plainMarks(&x.m).slots {
			if alive {
				count++
			}
		}
		most = max(most, count)
	}
	return most
}
