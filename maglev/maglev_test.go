package maglev_test

import (
	"slices"
	"testing"

	"counterfoil/api"
	"counterfoil/maglev"
	"counterfoil/octet"
	"counterfoil/siphash"
)

var key = siphash.Of(5, 6)

// P42.1: prime numbers.
func TestPrime(t *testing.T) {
	var composite [3000]bool
	for n := 2; n < 3000; n++ {
		for m := 2 * n; m < 3000; m += n {
			composite[m] = true
		}
	}
	for n := -5; n < 3000; n++ {
		if want := n >= 2 && !composite[n]; maglev.Prime(n) != want {
			t.Errorf("Prime(%d)", n)
		}
	}
	for n, want := range map[int]bool{65537: true, 65536: false, 1<<31 - 1: true, 46337 * 46337: false, -7: false, -1 << 63: false, 1<<31 + 11: true, 1 << 62: false} {
		if maglev.Prime(n) != want {
			t.Errorf("Prime(%d)", n)
		}
	}
}

// slowOf is the permutation as the document words it.
func slowOf(member, size int) maglev.Order {
	first := siphash.Sum(key, octet.Put([]byte{6}, uint64(member), 4))
	step := siphash.Sum(key, octet.Put([]byte{7}, uint64(member), 4))
	return maglev.Order{First: int(first % uint64(size)), Step: int(step%uint64(size-1)) + 1}
}

// P42.1: the permutation of a member.
func TestOf(t *testing.T) {
	if maglev.MostSize != 2048 {
		t.Error("MostSize")
	}
	for member := 1; member <= 64; member++ {
		for _, size := range []int{2, 3, 7, 65, 100, 2039, 2048} {
			want := slowOf(member, size)
			o := maglev.Of(key, member, size)
			if o != want || o.First < 0 || o.First >= size || o.Step < 1 || o.Step >= size {
				t.Errorf("Of(%d, %d) = %+v, want %+v", member, size, o, want)
			}
			for _, n := range []int{0, 1, 2, size - 1, size, 1 << 20} {
				if got := o.At(n, size); got != (want.First+n*want.Step)%size {
					t.Errorf("At(%d) of %+v: %d", n, o, got)
				}
			}
		}
	}
}

// slowBuild takes slots as the document words it.
func slowBuild(size int, members []int) []int {
	slots := make([]int, size)
	for turn := 0; slices.Contains(slots, 0); turn++ {
		m := members[turn%len(members)]
		o := slowOf(m, size)
		for n := 0; ; n++ {
			if at := (o.First + n*o.Step) % size; slots[at] == 0 {
				slots[at] = m
				break
			}
		}
	}
	return slots
}

func slots(t maglev.Table) []int {
	var l []int
	for i := range t.Len() {
		l = append(l, t.At(i))
	}
	return l
}

func upTo(n int) []int {
	var l []int
	for i := range n {
		l = append(l, i+1)
	}
	return l
}

// P42.2, P42.4: members take slots in turn, and get as many as others, or one more.
func TestBuild(t *testing.T) {
	for _, x := range []struct {
		size    int
		members []int
	}{
		{7, []int{5}}, {2, []int{1}}, {2, []int{64, 1}}, {3, []int{1, 2, 3}}, {7, []int{3, 1, 2}}, {7, []int{1, 2, 3}}, {13, []int{64, 9, 33, 2}}, {67, upTo(64)}, {67, upTo(63)}, {2039, upTo(64)}, {1021, []int{7, 8}}, {64 + 3, []int{1, 64}},
	} {
		before := slices.Clone(x.members)
		got, e := maglev.Build(key, x.size, x.members...)
		if e != api.OK || !slices.Equal(slots(got), slowBuild(x.size, x.members)) || !slices.Equal(x.members, before) {
			t.Errorf("Build(%d, %v) = %v %d", x.size, x.members, slots(got), e)
		}
		count := map[int]int{}
		for _, m := range slots(got) {
			count[m]++
		}
		for _, m := range x.members {
			if n := count[m]; n != x.size/len(x.members) && n != (x.size+len(x.members)-1)/len(x.members) {
				t.Errorf("Build(%d, %v): member %d has %d slots", x.size, x.members, m, n)
			}
		}
	}
	if x, _ := maglev.Build(key, 7, 9); !slices.Equal(slots(x), []int{9, 9, 9, 9, 9, 9, 9}) {
		t.Errorf("example 1: %v", slots(x))
	}
}

// P42.2: the errors of Build.
func TestBuildErrors(t *testing.T) {
	for name, x := range map[string]struct {
		size    int
		members []int
	}{
		"no members": {7, nil}, "more than size": {3, []int{1, 2, 3, 4}}, "member 0": {7, []int{0}}, "member 65": {7, []int{1, 65}}, "member -1": {7, []int{-1}}, "twice": {7, []int{1, 2, 1}}, "size 2053": {2053, []int{1}}, "size 65537": {65537, []int{1}},
		"size 0": {0, []int{1}}, "size 1": {1, []int{1}}, "size -7": {-7, []int{1}}, "size 4": {4, []int{1}}, "size 2047": {2047, []int{1}}, "size 2048": {2048, []int{1}}, "least size": {-1 << 63, []int{1}},
	} {
		if got, e := maglev.Build(key, x.size, x.members...); e != api.ErrArg || got.Len() != 0 {
			t.Errorf("%s: %d", name, e)
		}
	}
	if x, e := maglev.Build(key, 2039, 1); e != api.OK || x.Len() != 2039 {
		t.Errorf("the greatest size: %d", e)
	}
}

// P42.3: slots, choices and differences.
func TestTable(t *testing.T) {
	x, _ := maglev.Build(key, 13, 1, 2, 3)
	for _, i := range []int{-1, 13, 1 << 40, -1 << 63} {
		if x.At(i) != 0 {
			t.Errorf("At(%d) = %d", i, x.At(i))
		}
	}
	for n := range 100 {
		b := []byte{byte(n), 7}
		if got := x.Pick(siphash.Of(8, 9), b); got != x.At(int(siphash.Sum(siphash.Of(8, 9), b)%13)) {
			t.Errorf("Pick of %x: %d", b, got)
		}
	}
	var zero maglev.Table
	if zero.Len() != 0 || zero.At(0) != 0 || zero.Pick(key, []byte{1}) != 0 || zero.Moved(zero) != 0 || zero.Moved(x) != -1 || x.Moved(zero) != -1 {
		t.Error("the zero Table")
	}
	y, _ := maglev.Build(key, 13, 1, 2)
	other, _ := maglev.Build(key, 11, 1, 2)
	moved := 0
	for i := range 13 {
		if x.At(i) != y.At(i) {
			moved++
		}
	}
	if x.Moved(x) != 0 || x.Moved(y) != moved || y.Moved(x) != moved || moved == 0 || moved == 13 || y.Moved(other) != -1 {
		t.Errorf("Moved %d %d, want %d", x.Moved(y), y.Moved(x), moved)
	}
}
