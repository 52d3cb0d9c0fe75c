package smooth_test

import (
	"math/rand"
	"slices"
	"testing"

	"counterfoil/smooth"
	"counterfoil/turn"
)

// weights returns candidates of the backends 1, 2 and so on with these weights.
func weights(l ...int) []turn.Cand {
	var cands []turn.Cand
	for i, w := range l {
		cands = append(cands, turn.Cand{Slot: 2 * i, Backend: i + 1, Weight: w})
	}
	return cands
}

func picks(s *smooth.Smooth, l []turn.Cand, n int) []int {
	var got []int
	for range n {
		c, _ := s.Pick(l)
		got = append(got, c.Backend)
	}
	return got
}

// P19.1, example 1, and other orders.
func TestPick(t *testing.T) {
	for _, x := range []struct {
		l    []turn.Cand
		want []int
	}{
		{weights(5, 1, 1), []int{1, 1, 2, 1, 3, 1, 1, 1, 1, 2}}, {weights(1, 1, 1), []int{1, 2, 3, 1, 2, 3}}, {weights(1, 2), []int{2, 1, 2, 2, 1, 2}},
		{weights(0, 3, 0, 1), []int{2, 2, 4, 2, 2, 2, 4}}, {weights(7), []int{1, 1, 1}}, {weights(100, 100), []int{1, 2, 1, 2}},
	} {
		var s smooth.Smooth
		if got := picks(&s, x.l, len(x.want)); !slices.Equal(got, x.want) {
			t.Errorf("%v: %v, want %v", x.l, got, x.want)
		}
	}
}

// P19.1, P19.2: the credits after each Pick.
func TestOwed(t *testing.T) {
	var s smooth.Smooth
	l := weights(5, 1, 0, 1)
	for i, want := range [][]int{{-2, 1, 0, 1}, {-4, 2, 0, 2}, {1, -4, 0, 3}, {-1, -3, 0, 4}, {4, -2, 0, -2}, {2, -1, 0, -1}, {0, 0, 0, 0}} {
		s.Pick(l)
		for b := range want {
			if got := s.Owed(b + 1); got != want[b] {
				t.Errorf("after Pick %d: backend %d is owed %d, want %d", i+1, b+1, got, want[b])
			}
		}
	}
	s.Pick(l)
	if s.Owed(0) != 0 || s.Owed(9) != 0 || s.Owed(-1) != 0 {
		t.Error("Owed of who is not remembered")
	}
}

// P19.1: Pick returns the candidate as it stands in the list, and leaves the list.
func TestPickWhole(t *testing.T) {
	var s smooth.Smooth
	l := []turn.Cand{{Slot: 3, Backend: 8, Weight: 0, Load: 1}, {Slot: 5, Backend: 9, Weight: 2, Load: 77}}
	before := slices.Clone(l)
	for range 3 {
		if c, ok := s.Pick(l); !ok || c != l[1] {
			t.Errorf("Pick %+v %v", c, ok)
		}
	}
	l[1].Slot, l[1].Load = 6, 78
	if c, ok := s.Pick(l); !ok || c != l[1] {
		t.Errorf("Pick %+v %v", c, ok)
	}
	l[1] = before[1]
	if !slices.Equal(l, before) {
		t.Error("Pick changed its argument")
	}
}

// P19.1: without weight nothing is chosen, and nothing changes.
func TestPickNone(t *testing.T) {
	var s smooth.Smooth
	l := weights(5, 1, 1)
	s.Pick(l)
	for _, none := range [][]turn.Cand{nil, weights(0), weights(0, 0)} {
		if c, ok := s.Pick(none); ok || c != (turn.Cand{}) {
			t.Errorf("Pick %+v %v", c, ok)
		}
	}
	if s.Owed(1) != -2 || s.Owed(2) != 1 {
		t.Error("credits changed")
	}
	if got := picks(&s, l, 3); !slices.Equal(got, []int{1, 2, 1}) {
		t.Errorf("Picks afterwards: %v", got)
	}
}

// P19.1: other backends, weights or order start anew; slots, loads and candidates without weight do not matter.
func TestPickOthers(t *testing.T) {
	base := []turn.Cand{{Slot: 0, Backend: 1, Weight: 5}, {Slot: 1, Backend: 2, Weight: 1}, {Slot: 2, Backend: 3, Weight: 1}}
	for name, x := range map[string]struct {
		l     []turn.Cand
		first int
	}{
		"the same":         {base, -4},
		"other slots":      {[]turn.Cand{{Slot: 7, Backend: 1, Weight: 5, Load: 9}, {Slot: 8, Backend: 2, Weight: 1}, {Slot: 9, Backend: 3, Weight: 1}}, -4},
		"one without":      {[]turn.Cand{{Slot: 0, Backend: 9}, {Slot: 1, Backend: 1, Weight: 5}, {Slot: 2, Backend: 2, Weight: 1}, {Slot: 3, Backend: 3, Weight: 1}}, -4},
		"another weight":   {[]turn.Cand{{Slot: 0, Backend: 1, Weight: 5}, {Slot: 1, Backend: 2, Weight: 1}, {Slot: 2, Backend: 3, Weight: 2}}, -3},
		"another backend":  {[]turn.Cand{{Slot: 0, Backend: 1, Weight: 5}, {Slot: 1, Backend: 2, Weight: 1}, {Slot: 2, Backend: 4, Weight: 1}}, -2},
		"one more":         {[]turn.Cand{{Slot: 0, Backend: 1, Weight: 5}, {Slot: 1, Backend: 2, Weight: 1}, {Slot: 2, Backend: 3, Weight: 1}, {Slot: 3, Backend: 4, Weight: 1}}, -3},
		"one less":         {base[:2], -1},
		"another order":    {[]turn.Cand{{Slot: 0, Backend: 1, Weight: 5}, {Slot: 1, Backend: 3, Weight: 1}, {Slot: 2, Backend: 2, Weight: 1}}, -2},
		"exchanged weight": {[]turn.Cand{{Slot: 0, Backend: 1, Weight: 1}, {Slot: 1, Backend: 2, Weight: 5}, {Slot: 2, Backend: 3, Weight: 1}}, 1},
	} {
		var s smooth.Smooth
		s.Pick(base)
		s.Pick(x.l)
		if got := s.Owed(1); got != x.first {
			t.Errorf("%s: backend 1 is owed %d, want %d", name, got, x.first)
		}
	}
}

// A nil Smooth chooses nobody.
func TestNil(t *testing.T) {
	var s *smooth.Smooth
	if c, ok := s.Pick(weights(1)); ok || c != (turn.Cand{}) || s.Owed(1) != 0 {
		t.Error("nil Smooth")
	}
}

// P19.3: wherever a sequence begins, each candidate is chosen as often as its weight says.
func TestShares(t *testing.T) {
	rnd := rand.New(rand.NewSource(1))
	for range 100 {
		var ws []int
		total := 0
		for range 1 + rnd.Intn(6) {
			w := rnd.Intn(8)
			ws, total = append(ws, w), total+w
		}
		if total == 0 {
			continue
		}
		var s smooth.Smooth
		all := picks(&s, weights(ws...), 3*total)
		for from := range 2 * total {
			count := make([]int, len(ws))
			for _, b := range all[from : from+total] {
				count[b-1]++
			}
			if !slices.Equal(count, ws) {
				t.Fatalf("weights %v: from %d on chosen %v", ws, from, count)
			}
		}
	}
}
