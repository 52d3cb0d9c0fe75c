package least_test

import (
	"math/rand"
	"slices"
	"testing"

	"counterfoil/least"
	"counterfoil/turn"
)

// order sorts items as the document words it.
func order(l []least.Item) []least.Item {
	l = slices.Clone(l)
	slices.SortFunc(l, func(x, y least.Item) int {
		switch {
		case x.Weight < y.Weight || x.Weight == y.Weight && x.ID < y.ID:
			return -1
		case x == y:
			return 0
		}
		return 1
	})
	return l
}

func popAll(q *least.Queue) []least.Item {
	var l []least.Item
	for q.Len() > 0 {
		first, ok := q.First()
		x, okPop := q.Pop()
		if !ok || !okPop || first != x {
			return nil
		}
		l = append(l, x)
	}
	return l
}

// P20.1, example 1: items come out in order.
func TestQueue(t *testing.T) {
	var q least.Queue
	if _, ok := q.First(); ok || q.Len() != 0 {
		t.Error("the zero Queue")
	}
	for i, x := range []least.Item{{Weight: 5, ID: 1}, {Weight: 3, ID: 2}, {Weight: 3, ID: 1}} {
		q.Push(x)
		if q.Len() != i+1 {
			t.Errorf("Len %d", q.Len())
		}
	}
	for i, want := range []least.Item{{Weight: 3, ID: 1}, {Weight: 3, ID: 2}, {Weight: 5, ID: 1}} {
		if x, ok := q.First(); x != want || !ok || q.Len() != 3-i {
			t.Errorf("First %+v %v, Len %d", x, ok, q.Len())
		}
		if x, ok := q.Pop(); x != want || !ok || q.Len() != 2-i {
			t.Errorf("Pop %+v %v, Len %d", x, ok, q.Len())
		}
	}
	for range 2 {
		if x, ok := q.Pop(); ok || x != (least.Item{}) {
			t.Errorf("Pop of nothing: %+v %v", x, ok)
		}
		if x, ok := q.First(); ok || x != (least.Item{}) {
			t.Errorf("First of nothing: %+v %v", x, ok)
		}
	}
}

// P20.2: Fix and Drop find an item by its ID.
func TestFixDrop(t *testing.T) {
	var q least.Queue
	for id := range 10 {
		q.Push(least.Item{Weight: uint64(100 + id), ID: id})
	}
	if !q.Fix(9, 1) || !q.Fix(0, 200) || !q.Fix(5, 105) || q.Fix(10, 1) || q.Fix(-1, 1) {
		t.Error("Fix")
	}
	if !q.Drop(3) || q.Drop(3) || q.Drop(77) || q.Fix(3, 5) {
		t.Error("Drop")
	}
	want := []least.Item{{Weight: 1, ID: 9}, {Weight: 101, ID: 1}, {Weight: 102, ID: 2}, {Weight: 104, ID: 4}, {Weight: 105, ID: 5}, {Weight: 106, ID: 6}, {Weight: 107, ID: 7}, {Weight: 108, ID: 8}, {Weight: 200, ID: 0}}
	if got := popAll(&q); !slices.Equal(got, want) {
		t.Errorf("%v, want %v", got, want)
	}
	if q.Drop(1) || q.Fix(1, 1) {
		t.Error("Fix or Drop of nothing")
	}
}

// P20.3: Sorted returns all items in order.
func TestSorted(t *testing.T) {
	if got := least.Sorted(); len(got) != 0 {
		t.Errorf("Sorted of nothing: %v", got)
	}
	l := []least.Item{{Weight: 1<<64 - 1, ID: -5}, {Weight: 0, ID: 3}, {Weight: 0, ID: -3}, {Weight: 7, ID: 7}, {Weight: 7, ID: 7}, {Weight: 1 << 63, ID: 0}}
	before := slices.Clone(l)
	if got := least.Sorted(l...); !slices.Equal(got, order(l)) {
		t.Errorf("Sorted %v", got)
	}
	if !slices.Equal(l, before) {
		t.Error("Sorted changed its argument")
	}
}

// P20.3: Pick chooses the smallest Load, then the smallest Slot.
func TestPick(t *testing.T) {
	l := []turn.Cand{{Slot: 0, Backend: 4, Load: 7}, {Slot: 2, Backend: 3, Load: 5, Weight: 0}, {Slot: 3, Backend: 9, Load: 5, Weight: 2}, {Slot: 9, Backend: 1, Load: 6}}
	for i, want := range []int{0, 0, 1, 1, 1} {
		c, ok := least.Pick(l[:i])
		if ok != (i > 0) || ok && c != l[want] || !ok && c != (turn.Cand{}) {
			t.Errorf("Pick of %d: %+v %v", i, c, ok)
		}
	}
	if c, ok := least.Pick([]turn.Cand{{Slot: 1, Load: 1<<32 - 1}, {Slot: 2, Load: 1 << 31}, {Slot: 3, Load: 1<<31 - 1}}); !ok || c.Slot != 3 {
		t.Errorf("Pick %+v", c)
	}
}

// A nil Queue contains nothing, and no call changes it.
func TestNil(t *testing.T) {
	var q *least.Queue
	q.Push(least.Item{ID: 1})
	if q.Len() != 0 || q.Fix(1, 2) || q.Drop(1) {
		t.Error("nil Queue")
	}
	if x, ok := q.First(); ok || x != (least.Item{}) {
		t.Error("First of nil")
	}
	if x, ok := q.Pop(); ok || x != (least.Item{}) {
		t.Error("Pop of nil")
	}
}

// P20.4: whatever was pushed, fixed and dropped, items are popped in order.
func TestOrder(t *testing.T) {
	rnd := rand.New(rand.NewSource(1))
	for range 300 {
		var q least.Queue
		var l []least.Item
		for id := range rnd.Intn(40) {
			x := least.Item{Weight: uint64(rnd.Intn(10)), ID: id * 3 % 41}
			q.Push(x)
			l = append(l, x)
			i := rnd.Intn(len(l))
			switch rnd.Intn(4) {
			case 0:
				l[i].Weight = uint64(rnd.Intn(10))
				if !q.Fix(l[i].ID, l[i].Weight) {
					t.Fatal("Fix")
				}
			case 1:
				if !q.Drop(l[i].ID) {
					t.Fatal("Drop")
				}
				l = slices.Delete(l, i, i+1)
			case 2:
				want := order(l)[0]
				if x, ok := q.Pop(); !ok || x != want {
					t.Fatalf("Pop %+v, want %+v", x, want)
				}
				l = slices.DeleteFunc(l, func(y least.Item) bool { return y == want })
			}
		}
		if got := popAll(&q); !slices.Equal(got, order(l)) {
			t.Fatalf("%v, want %v", got, order(l))
		}
	}
}
