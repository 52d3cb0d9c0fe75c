package table_test

import (
	"bytes"
	"math/rand"
	"slices"
	"testing"

	"counterfoil/api"
	"counterfoil/octet"
	"counterfoil/table"
)

var zero table.Table

func upTo(n int) []int {
	var l []int
	for i := range n {
		l = append(l, i+1)
	}
	return l
}

// check compares a table with its slots: a backend's number, or its negative if it is away.
func check(t *testing.T, name string, x table.Table, slots ...int) {
	t.Helper()
	b := octet.Put(nil, uint64(len(slots)), 2)
	var members []int
	for i, n := range slots {
		owner, at := n, n
		if n < 0 {
			owner, at = -n, 0
			b = append(b, byte(owner)+128)
		} else {
			b = append(b, byte(owner))
			members = append(members, n)
		}
		if x.At(i) != at || x.Owner(i) != owner {
			t.Errorf("%s: slot %d: At %d, Owner %d, want %d", name, i, x.At(i), x.Owner(i), n)
		}
	}
	if x.Len() != len(slots) || !slices.Equal(x.Members(), members) || !bytes.Equal(x.Bytes(), b) {
		t.Errorf("%s: Len %d, Members %v, Bytes %x, want %v", name, x.Len(), x.Members(), x.Bytes(), slots)
	}
	for n := -2; n < 70; n++ {
		want, wantErr := slices.Index(slots, n), api.OK
		if want < 0 || n < 1 {
			want, wantErr = 0, api.ErrNone
		}
		if got, e := x.Slot(n); got != want || e != wantErr {
			t.Errorf("%s: Slot(%d) = %d %d, want %d %d", name, n, got, e, want, wantErr)
		}
	}
}

// P14.1: who has a slot keeps it, present or away; new members follow in their order.
func TestNext(t *testing.T) {
	check(t, "zero", zero)
	a := zero.Next(5, 7)
	check(t, "5 7", a, 5, 7)
	b := a.Next(7, 9)
	check(t, "example 1", b, -5, 7, 9)
	check(t, "back again", b.Next(9, 5), 5, -7, 9)
	check(t, "nobody", b.Next(), -5, -7, -9)
	check(t, "order of new members", b.Next(3, 5, 1, 7, 2), 5, 7, -9, 3, 1, 2)
	check(t, "before is as it was", a, 5, 7)
	check(t, "before is as it was", b, -5, 7, 9)
}

// P14.1: numbers that are not valid, and repetitions, are no members.
func TestNextOddMembers(t *testing.T) {
	check(t, "invalid", zero.Next(0, -1, 65, 64, 1, 128, 129, 1<<40, -1<<63), 64, 1)
	check(t, "repeated", zero.Next(3, 3, 4, 3, 4), 3, 4)
	check(t, "repeated, one known", zero.Next(4).Next(3, 4, 4, 3), 4, 3)
	check(t, "none valid", zero.Next(0, 65))
	check(t, "all", zero.Next(upTo(64)...), upTo(64)...)
	l := []int{2, 1}
	zero.Next(l...)
	if !slices.Equal(l, []int{2, 1}) {
		t.Error("Next changed its argument")
	}
}

// P14.2: slots that there are not.
func TestNoSuchSlot(t *testing.T) {
	x := zero.Next(1, 2)
	for _, slot := range []int{-1, 2, 3, 1 << 40, -1 << 63, 1<<63 - 1} {
		if x.At(slot) != 0 || x.Owner(slot) != 0 {
			t.Errorf("slot %d: %d %d", slot, x.At(slot), x.Owner(slot))
		}
	}
	if zero.At(0) != 0 || zero.Owner(0) != 0 || zero.Len() != 0 {
		t.Error("zero table")
	}
	x.Members()[0] = 9
	if x.At(0) != 1 {
		t.Error("Members shares the table")
	}
	x.Bytes()[2] = 9
	if x.At(0) != 1 {
		t.Error("Bytes shares the table")
	}
}

// P14.2: Same compares owners and who is away.
func TestSame(t *testing.T) {
	l := []table.Table{zero, zero.Next(1), zero.Next(1).Next(), zero.Next(1, 2), zero.Next(2, 1), zero.Next(1, 2).Next(1), zero.Next(1, 2).Next(2), zero.Next(1, 3)}
	for i, a := range l {
		for j, b := range l {
			if table.Same(a, b) != (i == j) {
				t.Errorf("Same of %d and %d", i, j)
			}
		}
	}
	if !table.Same(zero.Next(1).Next(1, 2).Next(2), zero.Next(1, 2).Next(2)) {
		t.Error("the same slots, made in other ways")
	}
}

// P14.3: Take accepts valid tables only.
func TestTake(t *testing.T) {
	long := octet.Put(nil, 65, 2)
	for i := range 65 {
		long = append(long, byte(i+1))
	}
	for name, x := range map[string]struct {
		b    []byte
		ok   bool
		left int
	}{
		"none": {[]byte{0, 0}, true, 0}, "two": {[]byte{0, 2, 5, 128 + 7}, true, 0}, "more behind": {[]byte{0, 1, 64, 9, 9}, true, 2}, "away": {[]byte{0, 1, 192}, true, 0},
		"nothing": {nil, false, 0}, "half a length": {[]byte{0}, false, 0}, "one missing": {[]byte{0, 2, 5}, false, 0}, "owner 0": {[]byte{0, 1, 0}, false, 0},
		"owner 0 away": {[]byte{0, 1, 128}, false, 0}, "owner 65": {[]byte{0, 1, 65}, false, 0}, "owner 127": {[]byte{0, 1, 127}, false, 0}, "owner 65 away": {[]byte{0, 1, 193}, false, 0},
		"owner 127 away": {[]byte{0, 1, 255}, false, 0}, "twice": {[]byte{0, 2, 5, 5}, false, 0}, "twice, once away": {[]byte{0, 3, 5, 6, 133}, false, 0},
		"too long": {long, false, 0}, "256 slots": {[]byte{1, 0, 1}, false, 0},
	} {
		r := octet.Read(x.b)
		got, ok := table.Take(r)
		if ok != x.ok || !ok && !table.Same(got, zero) {
			t.Errorf("%s: %v %v", name, got, ok)
		}
		if ok && (r.Left() != x.left || !bytes.Equal(got.Bytes(), x.b[:len(x.b)-x.left])) {
			t.Errorf("%s: %d left, Bytes %x", name, r.Left(), got.Bytes())
		}
	}
}

// P14.4: a slot belongs to the same backend forever, and Take inverts Bytes.
func TestForever(t *testing.T) {
	rnd := rand.New(rand.NewSource(1))
	for range 50 {
		x := zero
		var owners []int
		for range 30 {
			var l []int
			for range rnd.Intn(10) {
				l = append(l, rnd.Intn(68)-1)
			}
			x = x.Next(l...)
			for i, n := range owners {
				if x.Owner(i) != n {
					t.Fatalf("slot %d belonged to %d, and to %d after Next(%v)", i, n, x.Owner(i), l)
				}
			}
			owners = owners[:0]
			for i := range x.Len() {
				owners = append(owners, x.Owner(i))
			}
			sorted := slices.Sorted(slices.Values(owners))
			if len(slices.Compact(sorted)) != len(owners) {
				t.Fatalf("a backend has two slots: %v", owners)
			}
			r := octet.Read(append(x.Bytes(), 77))
			if got, ok := table.Take(r); !ok || !table.Same(got, x) || r.Left() != 1 {
				t.Fatalf("Take of %x: %v", x.Bytes(), ok)
			}
		}
	}
}
