package policy_test

import (
	"math/rand"
	"testing"

	"counterfoil/least"
	"counterfoil/policy"
	"counterfoil/smooth"
	"counterfoil/turn"
)

var names = []string{"", "turns", "weights", "loads", "draws"}

// ways are the policies and integers that are none.
var ways = []int{policy.Turns, policy.Weights, policy.Loads, policy.Draws, 0, 5, -1, 1 << 40, -1 << 63}

var cands = []turn.Cand{
	{Slot: 1, Backend: 11, Weight: 3, Load: 9}, {Slot: 2, Backend: 12, Weight: 0, Load: 4}, {Slot: 5, Backend: 13, Weight: 2, Load: 4}, {Slot: 6, Backend: 14, Weight: 1, Load: 5},
}

// P21.1: the policies, numbered from 1 on, and their names.
func TestNames(t *testing.T) {
	if policy.Turns != 1 || policy.Weights != 2 || policy.Loads != 3 || policy.Draws != 4 {
		t.Error("numbers")
	}
	for _, way := range ways {
		right := way >= 1 && way <= 4
		want := ""
		if right {
			want = names[way]
		}
		if policy.Right(way) != right || policy.Name(way) != want {
			t.Errorf("way %d: %v %q", way, policy.Right(way), policy.Name(way))
		}
		if right && policy.Of(want) != way {
			t.Errorf("Of(%q) = %d", want, policy.Of(want))
		}
	}
	for _, s := range []string{"", "turn", "Turns", "turns ", "TURNS", "draw", "load", "weights\n", "1"} {
		if got := policy.Of(s); got != 0 {
			t.Errorf("Of(%q) = %d", s, got)
		}
	}
}

// P21.2: each policy chooses as its layer does, and keeps a state of its own.
func TestChoose(t *testing.T) {
	var c policy.Chooser
	var x turn.Turn
	var y smooth.Smooth
	rnd := rand.New(rand.NewSource(1))
	for range 500 {
		way, n, a, b := ways[rnd.Intn(6)], rnd.Intn(len(cands)+1), rnd.Uint32(), rnd.Uint32()
		l := cands[rnd.Intn(n+1):n]
		var want turn.Cand
		var wantOk bool
		switch way {
		case policy.Turns:
			want, wantOk = x.Pick(l)
		case policy.Weights:
			want, wantOk = y.Pick(l)
		case policy.Loads:
			want, wantOk = least.Pick(l)
		case policy.Draws:
			want, wantOk = turn.Two(l, a, b)
		}
		if got, ok := c.Choose(way, l, a, b); got != want || ok != wantOk {
			t.Fatalf("way %d: %+v %v, want %+v %v", way, got, ok, want, wantOk)
		}
	}
}

// P21.2: other ways, no candidates and a nil Chooser choose nobody.
func TestChooseNobody(t *testing.T) {
	var c policy.Chooser
	var none *policy.Chooser
	for _, way := range ways {
		if got, ok := none.Choose(way, cands, 1, 2); ok || got != (turn.Cand{}) {
			t.Errorf("nil, way %d: %+v", way, got)
		}
		if got, ok := c.Choose(way, nil, 1, 2); ok || got != (turn.Cand{}) {
			t.Errorf("no candidates, way %d: %+v", way, got)
		}
		if got, ok := c.Choose(way, cands, 1, 2); ok != policy.Right(way) || !ok && got != (turn.Cand{}) {
			t.Errorf("way %d: %+v %v", way, got, ok)
		}
	}
}

// P21.3: who could be chosen by each policy.
func TestFits(t *testing.T) {
	for i, c := range cands {
		for a := range uint32(8) {
			for b := range uint32(8) {
				two, _ := turn.Two(cands, a, b)
				for way, want := range map[int]bool{policy.Turns: true, policy.Weights: c.Weight > 0, policy.Loads: i == 1, policy.Draws: c == two, 0: false, 5: false, -1: false} {
					if got := policy.Fits(way, cands, a, b, c); got != want {
						t.Errorf("way %d, draws %d %d: %+v %v", way, a, b, c, got)
					}
				}
			}
		}
	}
}

// P21.3: nothing but a whole candidate fits.
func TestFitsOthers(t *testing.T) {
	for i, c := range cands {
		for n, other := range []turn.Cand{
			{}, {Slot: c.Slot, Backend: c.Backend, Weight: c.Weight + 1, Load: c.Load}, {Slot: c.Slot, Backend: c.Backend, Weight: c.Weight, Load: c.Load + 1},
			{Slot: c.Slot, Backend: c.Backend + 1, Weight: c.Weight, Load: c.Load}, {Slot: c.Slot + 10, Backend: c.Backend, Weight: c.Weight, Load: c.Load},
		} {
			for _, way := range ways {
				if policy.Fits(way, cands, uint32(i), uint32(i), other) {
					t.Errorf("way %d, candidate %d, change %d", way, i, n)
				}
			}
		}
	}
	for _, way := range ways {
		if policy.Fits(way, nil, 0, 0, turn.Cand{}) || policy.Fits(way, nil, 0, 0, cands[0]) {
			t.Errorf("way %d without candidates", way)
		}
	}
}

// P21.4: whatever is chosen fits.
func TestChosenFits(t *testing.T) {
	rnd := rand.New(rand.NewSource(2))
	var c policy.Chooser
	for range 3000 {
		var l []turn.Cand
		for slot := range rnd.Intn(8) {
			if rnd.Intn(2) == 0 {
				l = append(l, turn.Cand{Slot: slot, Backend: slot + 1, Weight: rnd.Intn(4), Load: uint32(rnd.Intn(4))})
			}
		}
		way, a, b := ways[rnd.Intn(len(ways))], rnd.Uint32(), rnd.Uint32()
		if got, ok := c.Choose(way, l, a, b); ok && !policy.Fits(way, l, a, b, got) {
			t.Fatalf("way %d: %+v of %+v", way, got, l)
		}
	}
}
