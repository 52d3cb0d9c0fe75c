package spread_test

import (
	"bytes"
	"math/rand"
	"testing"

	"counterfoil/addr"
	"counterfoil/api"
	"counterfoil/spread"
)

// microsoft is the key with which the sums below are published.
var microsoft = []byte{
	0x6d, 0x5a, 0x56, 0xda, 0x25, 0x5b, 0x0e, 0xc2, 0x41, 0x67, 0x25, 0x3d, 0x43, 0xa3, 0x8f, 0xb0, 0xd0, 0xca, 0x2b, 0xcb,
	0xae, 0x7b, 0x30, 0xb4, 0x77, 0xcb, 0x2d, 0xa3, 0x80, 0x30, 0xf2, 0x0c, 0x6a, 0x42, 0xb7, 0x3b, 0xbe, 0xac, 0x01, 0xfa,
}

// slowSum is the sum as the document words it, bit by bit.
func slowSum(key, b []byte) uint32 {
	bit := func(x []byte, i int) uint32 {
		if i/8 >= len(x) {
			return 0
		}
		return uint32(x[i/8]>>(7-i%8)) & 1
	}
	sum := uint32(0)
	for i := range 8 * len(b) {
		if bit(b, i) == 1 {
			n := uint32(0)
			for j := range 32 {
				n = n<<1 | bit(key, i+j)
			}
			sum ^= n
		}
	}
	return sum
}

// P41.1: the published sums of flows of both families.
func TestFlow(t *testing.T) {
	if spread.KeySize != 40 {
		t.Error("KeySize")
	}
	for _, x := range []struct {
		src, dst         string
		srcPort, dstPort uint16
		want             uint32
	}{
		{"66.9.149.187", "161.142.100.80", 2794, 1766, 0x51ccc178}, {"199.92.111.2", "65.69.140.83", 14230, 4739, 0xc626b0ea}, {"24.19.198.95", "12.22.207.184", 12898, 38024, 0x5c2b394a},
		{"38.27.205.30", "209.142.163.6", 48228, 2217, 0xafc7327f}, {"153.39.163.191", "202.188.127.2", 44251, 1303, 0x10e828a2},
		{"3ffe:2501:200:1fff:0:0:0:7", "3ffe:2501:200:3:0:0:0:1", 2794, 1766, 0x40207d3d}, {"3ffe:501:8:0:260:97ff:fe40:efab", "ff02:0:0:0:0:0:0:1", 14230, 4739, 0xdde51bbf},
	} {
		f := api.Flow{SrcPort: x.srcPort, DstPort: x.dstPort, Proto: 6}
		f.Src, _ = addr.Parse(x.src)
		f.Dst, _ = addr.Parse(x.dst)
		if got := spread.Flow(microsoft, f); got != x.want {
			t.Errorf("Flow from %s: %x, want %x", x.src, got, x.want)
		}
		f.Proto = 17
		if got := spread.Flow(microsoft, f); got != x.want {
			t.Errorf("Flow of another protocol: %x", got)
		}
	}
}

// P41.1: sums of any keys and bytes; bits beyond the end of the key are 0.
func TestSum(t *testing.T) {
	rnd := rand.New(rand.NewSource(1))
	for range 500 {
		key, b := make([]byte, rnd.Intn(50)), make([]byte, rnd.Intn(50))
		rnd.Read(key)
		rnd.Read(b)
		before := bytes.Clone(b)
		if got, want := spread.Sum(key, b), slowSum(key, b); got != want || !bytes.Equal(b, before) {
			t.Fatalf("Sum(%x, %x) = %x, want %x", key, b, got, want)
		}
	}
	for _, x := range []struct {
		key, b []byte
		want   uint32
	}{{nil, []byte{255}, 0}, {microsoft, nil, 0}, {[]byte{1, 2, 3, 4}, []byte{0x80}, 0x01020304}, {[]byte{1, 2, 3, 4, 0x80}, []byte{1}, 0x81018240}, {[]byte{1, 2, 3, 4}, []byte{0, 0x80}, 0x02030400}} {
		if got := spread.Sum(x.key, x.b); got != x.want {
			t.Errorf("Sum(%x, %x) = %x, want %x", x.key, x.b, got, x.want)
		}
	}
	if got := spread.Sum([]byte{1, 2, 3, 4}, []byte{0, 0, 0, 0, 0xff}); got != 0 {
		t.Errorf("bits beyond the key: %x", got)
	}
}

// check compares a table with its slots.
func check(t *testing.T, name string, x spread.Table, slots ...int) {
	t.Helper()
	if len(slots) == 0 && x.Pick(5) != -1 {
		t.Errorf("%s: a slot has %d", name, x.Pick(5))
	}
	count := map[int]int{}
	for i, n := range slots {
		count[n]++
		for _, sum := range []uint32{uint32(i), uint32(i + len(slots)), uint32(i + 1<<32 - len(slots))} {
			if got := x.Pick(sum); got != n {
				t.Errorf("%s: Pick(%d) = %d, want %d", name, sum, got, n)
			}
		}
	}
	for n := -2; n < 12; n++ {
		if got := x.Count(n); got != count[n] {
			t.Errorf("%s: Count(%d) = %d, want %d", name, n, got, count[n])
		}
	}
}

// P41.2, example 1: the values of the slots.
func TestNew(t *testing.T) {
	for name, x := range map[string]struct {
		size int
		to   []int
		want []int
	}{
		"example 1": {4, []int{7, 8}, []int{7, 8, 7, 8}}, "one": {1, []int{7, 8}, []int{7}}, "three": {8, []int{1, -2, 3}, []int{1, -2, 3, 1, -2, 3, 1, -2}}, "the same": {2, []int{5, 5, 6}, []int{5, 5}}, "one value": {4, []int{0}, []int{0, 0, 0, 0}},
	} {
		got, e := spread.New(x.size, x.to...)
		if e != api.OK {
			t.Errorf("%s: %d", name, e)
		}
		check(t, name, got, x.want...)
		x.to[0] = 99
		check(t, name, got, x.want...)
	}
	for _, size := range []int{0, -1, -4, 3, 5, 6, 12, 1000, 4095, 4097, 8192, -1 << 63, 1 << 62} {
		if x, e := spread.New(size, 1, 2); e != api.ErrArg || x.Count(1) != 0 || x.Pick(0) != -1 {
			t.Errorf("size %d: %d", size, e)
		}
	}
	if x, e := spread.New(4); e != api.ErrArg || x.Pick(0) != -1 {
		t.Errorf("no values: %d", e)
	}
	for size := 1; size <= 4096; size *= 2 {
		if x, e := spread.New(size, 6); e != api.OK || x.Count(6) != size {
			t.Errorf("size %d: %d", size, e)
		}
	}
	check(t, "zero", spread.Table{})
}

// P41.3: the slots of one go to the others in turn.
func TestWithout(t *testing.T) {
	x, _ := spread.New(8, 1, 2, 3, 1)
	for name, c := range map[string]struct {
		gone int
		to   []int
		want []int
	}{
		"1 to 2 and 3": {1, []int{2, 3}, []int{2, 2, 3, 3, 2, 2, 3, 3}}, "1 to three others": {1, []int{7, 1, 8, 9, 1}, []int{7, 2, 3, 8, 9, 2, 3, 7}}, "2 to 2 and 4": {2, []int{2, 4}, []int{1, 4, 3, 1, 1, 4, 3, 1}}, "nobody": {5, []int{6}, []int{1, 2, 3, 1, 1, 2, 3, 1}},
		"one twice": {1, []int{5, 5, 6}, []int{5, 2, 3, 5, 6, 2, 3, 5}},
	} {
		got, e := x.Without(c.gone, c.to...)
		if e != api.OK {
			t.Errorf("%s: %d", name, e)
		}
		check(t, name, got, c.want...)
		check(t, name+", before", x, 1, 2, 3, 1, 1, 2, 3, 1)
	}
	for _, to := range [][]int{nil, {1}, {1, 1, 1}} {
		if got, e := x.Without(1, to...); e != api.ErrArg || got.Pick(0) != -1 {
			t.Errorf("without others: %d", e)
		}
	}
	if got, e := (spread.Table{}).Without(1, 2); e != api.OK || got.Pick(0) != -1 {
		t.Errorf("no slots: %d", e)
	}
	if _, e := (spread.Table{}).Without(1, 1); e != api.ErrArg {
		t.Errorf("no slots, no others: %d", e)
	}
}

// P41.4: the sum of an XOR is the XOR of the sums.
func TestLinear(t *testing.T) {
	rnd := rand.New(rand.NewSource(2))
	for range 300 {
		a := make([]byte, rnd.Intn(40))
		rnd.Read(a)
		b := bytes.Clone(a)
		rnd.Read(b)
		both := bytes.Clone(a)
		for i := range both {
			both[i] ^= b[i]
		}
		if spread.Sum(microsoft, both) != spread.Sum(microsoft, a)^spread.Sum(microsoft, b) {
			t.Fatalf("Sum of %x and %x", a, b)
		}
	}
}
