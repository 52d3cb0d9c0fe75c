package meter_test

import (
	"math/big"
	"math/bits"
	"math/rand"
	"slices"
	"testing"

	"counterfoil/api"
	"counterfoil/meter"
)

// P43.1: the bounds of rate and size.
func TestNew(t *testing.T) {
	if meter.MostRate != 1<<31 {
		t.Error("MostRate")
	}
	for _, x := range []struct {
		rate, size uint64
		ok         bool
	}{{0, 1, true}, {1 << 31, 1 << 31, true}, {1<<31 + 1, 1, false}, {1, 1<<31 + 1, false}, {1, 0, false}, {1<<64 - 1, 5, false}, {5, 1<<64 - 1, false}, {0, 0, false}} {
		b, e := meter.New(x.rate, x.size)
		if x.ok && (e != api.OK || b.Level(0) != x.size) || !x.ok && (e != api.ErrArg || b != nil) {
			t.Errorf("New(%d, %d): %d", x.rate, x.size, e)
		}
	}
}

// P43.2, example 1: Take removes what is there, after a refill up to the size.
func TestTake(t *testing.T) {
	b, _ := meter.New(1, 2)
	for i, x := range []struct {
		n, now uint64
		want   bool
		level  uint64
	}{
		{2, 0, true, 0}, {1, 0, false, 0}, {1, 1, true, 0}, {0, 1, true, 0}, {3, 2, false, 1}, {1, 2, true, 0}, {1, 1, false, 0}, {1, 0, false, 0}, {2, 4, true, 0}, {2, 5, false, 1}, {2, 100, true, 0}, {1, 99, false, 0}, {1, 101, true, 0},
		{1<<64 - 1, 102, false, 1}, {1, 102, true, 0},
	} {
		if got := b.Take(x.n, x.now); got != x.want {
			t.Errorf("%d: Take(%d, %d) = %v", i, x.n, x.now, got)
		}
		if got := b.Level(x.now); got != x.level {
			t.Errorf("%d: Level(%d) = %d, want %d", i, x.now, got, x.level)
		}
	}
}

// P43.2: Level refills, too; a rate of 0 never does.
func TestLevel(t *testing.T) {
	b, _ := meter.New(3, 10)
	b.Take(10, 5)
	for _, x := range [][2]uint64{{5, 0}, {6, 3}, {6, 3}, {4, 3}, {8, 9}, {9, 10}, {1 << 40, 10}} {
		if got := b.Level(x[0]); got != x[1] {
			t.Errorf("Level(%d) = %d, want %d", x[0], got, x[1])
		}
	}
	if b.Take(5, 0); b.Level(1<<40) != 5 || b.Level(1<<40+1) != 8 {
		t.Error("a time that goes back")
	}
	none, _ := meter.New(0, 7)
	if !none.Take(4, 1) || none.Level(1<<64-1) != 3 || none.Take(4, 1<<64-1) {
		t.Error("a rate of 0")
	}
}

// P43.2: long times count as 2^31, and nothing wraps.
func TestLongTimes(t *testing.T) {
	for _, now := range []uint64{1<<31 - 1, 1 << 31, 1<<31 + 1, 1 << 32, 1 << 33, 1 << 63, 1<<64 - 1} {
		fast, _ := meter.New(1<<31, 1<<31)
		fast.Take(1<<31, 0)
		if got := fast.Level(now); got != 1<<31 {
			t.Errorf("the greatest rate at %d: %d", now, got)
		}
		slow, _ := meter.New(1, 1<<31)
		slow.Take(1<<31, 0)
		if got := slow.Level(now); got != min(now, 1<<31) {
			t.Errorf("rate 1 at %d: %d", now, got)
		}
		slow.Take(1<<31, 0)
		if now < 1<<64-1 && slow.Level(now+1) != 1 && now >= 1<<31 {
			t.Errorf("after %d: %d", now, slow.Level(now+1))
		}
	}
}

// P43.3: numbers are counted by their bit length.
func TestHist(t *testing.T) {
	var h meter.Hist
	if h.Total() != 0 {
		t.Error("the zero Hist")
	}
	for k := range 65 {
		var one meter.Hist
		high := uint64(1)<<k - 1
		low := high - high/2
		one.Add(low)
		one.Add(high)
		h.Add(high)
		for _, percent := range []int{0, 1, 50, 100} {
			if got, ok := one.Below(percent); got != high || !ok || one.Total() != 2 {
				t.Errorf("numbers of %d bits: Below(%d) = %d %v", k, percent, got, ok)
			}
		}
		if h.Total() != uint64(k+1) {
			t.Errorf("Total %d", h.Total())
		}
	}
	if got, ok := h.Below(100); got != 1<<64-1 || !ok {
		t.Errorf("Below(100) = %d %v", got, ok)
	}
	if got, ok := h.Below(0); got != 0 || !ok {
		t.Errorf("Below(0) = %d %v", got, ok)
	}
}

// slowBelow follows the words of the document, with numbers of any size.
func slowBelow(all []uint64, percent int) (uint64, bool) {
	if len(all) == 0 || percent < 0 || percent > 100 {
		return 0, false
	}
	want := new(big.Int).Mul(big.NewInt(int64(len(all))), big.NewInt(int64(percent)))
	want.Add(want, big.NewInt(99)).Div(want, big.NewInt(100))
	need := max(want.Int64(), 1)
	l := slices.Clone(all)
	slices.Sort(l)
	k := bits.Len64(l[need-1])
	return 1<<k - 1, true
}

// P43.4: Below of lists of all kinds.
func TestBelow(t *testing.T) {
	rnd := rand.New(rand.NewSource(1))
	for range 100 {
		var h meter.Hist
		var all []uint64
		for range rnd.Intn(250) {
			x := rnd.Uint64() >> rnd.Intn(65)
			h.Add(x)
			all = append(all, x)
		}
		for percent := -2; percent < 104; percent++ {
			want, wantOk := slowBelow(all, percent)
			if got, ok := h.Below(percent); got != want || ok != wantOk {
				t.Fatalf("Below(%d) of %d numbers = %d %v, want %d %v", percent, len(all), got, ok, want, wantOk)
			}
		}
	}
	var h meter.Hist
	h.Add(0)
	for _, percent := range []int{-1, 101, 1 << 40, -1 << 63} {
		if got, ok := h.Below(percent); got != 0 || ok {
			t.Errorf("Below(%d) = %d %v", percent, got, ok)
		}
	}
	if got, ok := new(meter.Hist).Below(50); got != 0 || ok {
		t.Errorf("Below of nothing: %d %v", got, ok)
	}
}

// P43.3, P43.4: Join adds counts, also of itself, up to counts whose product with a percentage would wrap.
func TestJoin(t *testing.T) {
	var a, b meter.Hist
	a.Add(1)
	a.Add(5)
	b.Add(5)
	b.Add(1000)
	a.Join(&b)
	a.Join(nil)
	if got, _ := a.Below(75); a.Total() != 4 || b.Total() != 2 || got != 7 {
		t.Errorf("Total %d, Below(75) = %d", a.Total(), got)
	}
	if got, _ := a.Below(76); got != 1023 {
		t.Errorf("Below(76) = %d", got)
	}
	for range 60 {
		a.Join(&a)
	}
	if a.Total() != 4<<60 {
		t.Errorf("Total %d", a.Total())
	}
	for percent, want := range map[int]uint64{0: 1, 25: 1, 26: 7, 75: 7, 76: 1023, 100: 1023} {
		if got, ok := a.Below(percent); got != want || !ok {
			t.Errorf("Below(%d) = %d %v, want %d", percent, got, ok, want)
		}
	}
}

// Nil buckets and histograms.
func TestNil(t *testing.T) {
	var b *meter.Bucket
	var h *meter.Hist
	var other meter.Hist
	other.Add(3)
	h.Add(1)
	h.Join(&other)
	if got, ok := h.Below(50); ok || got != 0 || h.Total() != 0 || b.Take(0, 0) || b.Level(5) != 0 || other.Total() != 1 {
		t.Error("nil")
	}
}

// P43.5: in any interval, what is taken is at most the size plus the rate times its length.
func TestInterval(t *testing.T) {
	rnd := rand.New(rand.NewSource(2))
	for range 100 {
		rate, size := uint64(rnd.Intn(5)), uint64(1+rnd.Intn(10))
		b, _ := meter.New(rate, size)
		var times, taken []uint64
		now := uint64(0)
		for range 50 {
			now += uint64(rnd.Intn(4))
			if n := uint64(rnd.Intn(12)); b.Take(n, now) {
				times, taken = append(times, now), append(taken, n)
			}
		}
		for i := range times {
			sum := uint64(0)
			for j := i; j < len(times); j++ {
				sum += taken[j]
				if sum > size+rate*(times[j]-times[i]) {
					t.Fatalf("rate %d, size %d: %d taken from %d to %d", rate, size, sum, times[i], times[j])
				}
			}
		}
	}
}
