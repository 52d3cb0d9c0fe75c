package hrw_test

import (
	"math/rand"
	"slices"
	"testing"

	"counterfoil/hrw"
	"counterfoil/octet"
	"counterfoil/siphash"
)

var key = siphash.Of(3, 4)

// slowScore is the greatest sum as the document words it.
func slowScore(m hrw.Member, b []byte) uint64 {
	best := uint64(0)
	for i := 0; i < m.Weight; i++ {
		text := octet.Put(octet.Put([]byte{5}, uint64(m.ID), 4), uint64(i), 2)
		if n := siphash.Sum(key, append(text, b...)); n > best {
			best = n
		}
	}
	return best
}

// P16.1: the greatest of Weight sums; 0 without weight.
func TestScore(t *testing.T) {
	for _, id := range []int{0, 1, 64, 0x01020304, 1<<32 - 1} {
		for _, weight := range []int{0, 1, 2, 3, 10, 300, -1, -1 << 63} {
			for _, b := range [][]byte{nil, {1}, {1, 2, 3, 4, 5, 6, 7, 8, 9}} {
				m := hrw.Member{ID: id, Weight: weight}
				if got, want := hrw.Score(key, m, b), slowScore(m, b); got != want {
					t.Errorf("Score of %+v: %x, want %x", m, got, want)
				}
			}
		}
	}
	m := hrw.Member{ID: 5, Weight: 65535}
	if got, want := hrw.Score(key, m, []byte{9}), slowScore(m, []byte{9}); got != want {
		t.Errorf("Score of the greatest weight: %x, want %x", got, want)
	}
}

// bytesFor finds bytes for which the greatest sum of a weight is the last one.
func bytesFor(id, weight int) []byte {
	for n := uint64(0); ; n++ {
		b := octet.Put(nil, n, 8)
		if slowScore(hrw.Member{ID: id, Weight: weight}, b) != slowScore(hrw.Member{ID: id, Weight: weight - 1}, b) {
			return b
		}
	}
}

// P16.1: the last one of the sums counts, and none after it.
func TestScoreLast(t *testing.T) {
	for weight := 1; weight < 40; weight++ {
		b := bytesFor(3, weight)
		if hrw.Score(key, hrw.Member{ID: 3, Weight: weight}, b) == hrw.Score(key, hrw.Member{ID: 3, Weight: weight - 1}, b) {
			t.Errorf("weight %d and one less", weight)
		}
	}
	b := make([]byte, 3, 20)
	hrw.Score(key, hrw.Member{ID: 3, Weight: 3}, b)
	if slices.Max(b[:20]) != 0 {
		t.Error("Score wrote into spare capacity")
	}
}

// P16.2: Rank is by descending score, and Pick is its first.
func TestRankPick(t *testing.T) {
	rnd := rand.New(rand.NewSource(1))
	for range 300 {
		var l []hrw.Member
		for id := range rnd.Intn(8) {
			l = append(l, hrw.Member{ID: id + 1, Weight: rnd.Intn(5) - 1})
		}
		b := octet.Put(nil, rnd.Uint64(), rnd.Intn(9))
		before := slices.Clone(l)
		rank := hrw.Rank(key, l, b)
		if !slices.Equal(l, before) {
			t.Fatal("Rank changed its argument")
		}
		var want []int
		for _, m := range l {
			if m.Weight > 0 {
				want = append(want, m.ID)
			}
		}
		weight := func(id int) hrw.Member { return l[id-1] }
		slices.SortFunc(want, func(x, y int) int {
			if slowScore(weight(x), b) > slowScore(weight(y), b) {
				return -1
			}
			return 1
		})
		if !slices.Equal(rank, want) {
			t.Fatalf("Rank of %v: %v, want %v", l, rank, want)
		}
		id, ok := hrw.Pick(key, l, b)
		if ok != (len(want) > 0) || ok && id != want[0] || !ok && id != 0 {
			t.Fatalf("Pick of %v: %d %v, want %v", l, id, ok, want)
		}
		rnd.Shuffle(len(l), func(i, j int) { l[i], l[j] = l[j], l[i] })
		if again, okAgain := hrw.Pick(key, l, b); again != id || okAgain != ok {
			t.Fatalf("Pick depends on the order: %d and %d", id, again)
		}
	}
	if id, ok := hrw.Pick(key, nil, nil); id != 0 || ok || len(hrw.Rank(key, nil, nil)) != 0 {
		t.Error("nobody")
	}
	if id, ok := hrw.Pick(key, []hrw.Member{{ID: 7, Weight: 0}, {ID: 8, Weight: -3}}, nil); id != 0 || ok {
		t.Error("nobody weighs anything")
	}
}

// P16.2: a member that stands there several times is ranked as often. (Different IDs with one score would need a collision of sums.)
func TestRankTies(t *testing.T) {
	l := []hrw.Member{{ID: 5, Weight: 2}, {ID: 5, Weight: 2}, {ID: 6, Weight: 2}, {ID: 5, Weight: 2}}
	rank := hrw.Rank(key, l, []byte{1})
	if len(rank) != 4 || !slices.Equal(rank, []int{5, 5, 5, 6}) && !slices.Equal(rank, []int{6, 5, 5, 5}) {
		t.Errorf("Rank %v", rank)
	}
}

// P16.3: only who is removed or added changes a choice; example 1.
func TestPickStable(t *testing.T) {
	rnd := rand.New(rand.NewSource(2))
	for range 300 {
		var l []hrw.Member
		for id := range 2 + rnd.Intn(6) {
			l = append(l, hrw.Member{ID: id * 1000, Weight: 1 + rnd.Intn(4)})
		}
		b := octet.Put(nil, rnd.Uint64(), 8)
		with, _ := hrw.Pick(key, l, b)
		out := rnd.Intn(len(l))
		without, _ := hrw.Pick(key, slices.Delete(slices.Clone(l), out, out+1), b)
		if with != without && with != l[out].ID {
			t.Fatalf("without %d: %d, before %d", l[out].ID, without, with)
		}
		if id, ok := hrw.Pick(key, []hrw.Member{{ID: 42, Weight: 1}}, b); id != 42 || !ok {
			t.Fatalf("a single member: %d %v", id, ok)
		}
	}
}

// P16.2: a weight draws its share of the choices.
func TestPickShares(t *testing.T) {
	l := []hrw.Member{{ID: 1, Weight: 1}, {ID: 2, Weight: 3}}
	count := 0
	for n := range 4000 {
		if id, _ := hrw.Pick(key, l, octet.Put(nil, uint64(n), 4)); id == 2 {
			count++
		}
	}
	if count < 2800 || count > 3200 {
		t.Errorf("%d of 4000", count)
	}
}
