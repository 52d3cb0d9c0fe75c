package turn_test

import (
	"math/rand"
	"testing"

	"counterfoil/turn"
)

// P18.1: the bounds of slots and weights, and that slots rise strictly.
func TestRight(t *testing.T) {
	for name, x := range map[string]struct {
		l    []turn.Cand
		want bool
	}{
		"none": {nil, true}, "one": {[]turn.Cand{{}}, true}, "bounds": {[]turn.Cand{{Slot: 0, Weight: 100}, {Slot: 4095}}, true},
		"rising": {[]turn.Cand{{Slot: 1}, {Slot: 2}, {Slot: 9}}, true}, "the same slot": {[]turn.Cand{{Slot: 1}, {Slot: 1}}, false},
		"falling": {[]turn.Cand{{Slot: 2}, {Slot: 1}}, false}, "falling later": {[]turn.Cand{{Slot: 1}, {Slot: 5}, {Slot: 4}}, false},
		"slot 4096": {[]turn.Cand{{Slot: 4096}}, false}, "slot -1": {[]turn.Cand{{Slot: -1}}, false}, "weight 101": {[]turn.Cand{{Weight: 101}}, false},
		"weight -1": {[]turn.Cand{{Slot: 3, Weight: -1}}, false}, "second weight": {[]turn.Cand{{}, {Slot: 1, Weight: 101}}, false},
		"backends do not matter": {[]turn.Cand{{Slot: 1, Backend: -5}, {Slot: 2, Backend: -5}}, true},
	} {
		if got := turn.Right(x.l); got != x.want {
			t.Errorf("%s: %v", name, got)
		}
	}
}

// P18.2: Pick goes from its position on, around.
func TestPick(t *testing.T) {
	l := []turn.Cand{{Slot: 1, Backend: 10, Load: 3}, {Slot: 4, Backend: 11, Weight: 5}}
	var x turn.Turn
	if x.Next() != 0 {
		t.Error("position of the zero Turn")
	}
	for i, want := range []int{0, 1, 0, 1, 0} {
		c, ok := x.Pick(l)
		if !ok || c != l[want] || x.Next() != l[want].Slot+1 {
			t.Errorf("Pick %d: %+v %v, position %d", i, c, ok, x.Next())
		}
	}
	if c, ok := x.Pick(nil); ok || c != (turn.Cand{}) || x.Next() != 2 {
		t.Errorf("Pick of none: %+v %v, position %d", c, ok, x.Next())
	}
	if c, ok := x.Pick([]turn.Cand{{Slot: 0}, {Slot: 2}, {Slot: 3}}); !ok || c.Slot != 2 || x.Next() != 3 {
		t.Errorf("Pick at the position: %+v %v, position %d", c, ok, x.Next())
	}
	if c, ok := x.Pick([]turn.Cand{{Slot: 0}, {Slot: 2}}); !ok || c.Slot != 0 || x.Next() != 1 {
		t.Errorf("Pick behind all: %+v %v, position %d", c, ok, x.Next())
	}
	if c, ok := x.Pick([]turn.Cand{{Slot: 4095}}); !ok || c.Slot != 4095 || x.Next() != 4096 {
		t.Errorf("Pick of the last slot: %+v %v, position %d", c, ok, x.Next())
	}
	var none *turn.Turn
	if c, ok := none.Pick(l); ok || c != (turn.Cand{}) || none.Next() != 0 {
		t.Error("nil Turn")
	}
}

// P18.3: the smaller Load of two draws, then the smaller Slot.
func TestTwo(t *testing.T) {
	l := []turn.Cand{{Slot: 1, Load: 5}, {Slot: 2, Load: 3}, {Slot: 3, Load: 5}, {Slot: 7, Load: 3}, {Slot: 9, Load: 1<<32 - 1}}
	for _, x := range []struct {
		a, b uint32
		want int
	}{
		{0, 0, 0}, {0, 1, 1}, {1, 0, 1}, {0, 2, 0}, {2, 0, 0}, {1, 3, 1}, {3, 1, 1}, {4, 4, 4}, {4, 0, 0}, {5, 6, 1}, {10, 12, 0}, {9, 14, 4}, {8, 2, 3},
		{1<<32 - 1, 1<<32 - 1, 0}, {1<<32 - 2, 1<<32 - 2, 4}, {1<<32 - 2, 1<<32 - 3, 3}, {1<<31 + 1, 4, 4},
	} {
		if c, ok := turn.Two(l, x.a, x.b); !ok || c != l[x.want] {
			t.Errorf("Two(%d, %d) = %+v %v", x.a, x.b, c, ok)
		}
	}
	if c, ok := turn.Two(nil, 1, 2); ok || c != (turn.Cand{}) {
		t.Error("Two of none")
	}
}

// P18.4: as many consecutive Picks as there are candidates return each one once.
func TestPickEach(t *testing.T) {
	rnd := rand.New(rand.NewSource(1))
	for range 200 {
		var l []turn.Cand
		for slot := range 30 {
			if rnd.Intn(3) == 0 {
				l = append(l, turn.Cand{Slot: slot, Backend: slot + 1})
			}
		}
		var x turn.Turn
		x.Pick([]turn.Cand{{Slot: rnd.Intn(40)}})
		for range rnd.Intn(5) {
			x.Pick(l)
		}
		seen := map[int]int{}
		for range l {
			c, ok := x.Pick(l)
			if !ok {
				t.Fatal("Pick found nobody")
			}
			seen[c.Slot]++
		}
		if len(seen) != len(l) {
			t.Fatalf("%d of %d candidates", len(seen), len(l))
		}
	}
}
