package varint_test

import (
	"bytes"
	"math/rand"
	"slices"
	"testing"

	"counterfoil/api"
	"counterfoil/octet"
	"counterfoil/varint"
)

// P39.1: the smallest of four lengths, at their bounds.
func TestSizePut(t *testing.T) {
	if varint.Most != 1<<62-1 {
		t.Error("Most")
	}
	for _, x := range []struct {
		n    uint64
		want []byte
	}{
		{0, []byte{0}}, {37, []byte{0x25}}, {63, []byte{0x3f}}, {64, []byte{0x40, 0x40}}, {15293, []byte{0x7b, 0xbd}}, {16383, []byte{0x7f, 0xff}}, {16384, []byte{0x80, 0, 0x40, 0}}, {494878333, []byte{0x9d, 0x7f, 0x3e, 0x7d}},
		{1<<30 - 1, []byte{0xbf, 0xff, 0xff, 0xff}}, {1 << 30, []byte{0xc0, 0, 0, 0, 0x40, 0, 0, 0}}, {151288809941952652, []byte{0xc2, 0x19, 0x7c, 0x5e, 0xff, 0x14, 0xe8, 0x8c}}, {1<<62 - 1, []byte{0xff, 0xff, 0xff, 0xff, 0xff, 0xff, 0xff, 0xff}},
		{1 << 62, nil}, {1<<64 - 1, nil}, {1 << 63, nil},
	} {
		if got := varint.Size(x.n); got != len(x.want) {
			t.Errorf("Size(%d) = %d", x.n, got)
		}
		front := make([]byte, 2, 20)
		front[0], front[1] = 7, 8
		got, e := varint.Put(front, x.n)
		if x.want == nil {
			if e != api.ErrLong || len(got) != 0 {
				t.Errorf("Put %d: %x %d", x.n, got, e)
			}
			continue
		}
		if e != api.OK || !bytes.Equal(got, append([]byte{7, 8}, x.want...)) || !bytes.Equal(front[:20][2:], make([]byte, 18)) {
			t.Errorf("Put %d: %x %d, want %x", x.n, got, e, x.want)
		}
		got[0] = 9
		if front[0] != 7 {
			t.Error("Put shares its argument")
		}
	}
}

// P39.2: Take reads an integer in as many bytes as it says, and All reads one after the other.
func TestTakeAll(t *testing.T) {
	for _, x := range []struct {
		b    []byte
		want uint64
	}{
		{[]byte{0x25}, 37}, {[]byte{0x40, 0x25}, 37}, {[]byte{0x80, 0, 0, 0x25}, 37}, {[]byte{0xc0, 0, 0, 0, 0, 0, 0, 0x25}, 37}, {[]byte{0}, 0}, {[]byte{0xc0, 0, 0, 0, 0, 0, 0, 0}, 0}, {[]byte{0x7f, 0xff}, 16383},
		{[]byte{0xbf, 0xff, 0xff, 0xff}, 1<<30 - 1}, {[]byte{0xff, 0xff, 0xff, 0xff, 0xff, 0xff, 0xff, 0xff}, 1<<62 - 1}, {[]byte{0x9d, 0x7f, 0x3e, 0x7d}, 494878333}, {[]byte{0xc1, 2, 3, 4, 5, 6, 7, 8}, 0x0102030405060708},
	} {
		b := append(bytes.Clone(x.b), 0xfe, 0xff)
		n, rest, e := varint.Take(b)
		if n != x.want || !bytes.Equal(rest, []byte{0xfe, 0xff}) || e != api.OK {
			t.Errorf("Take of %x: %d %x %d", b, n, rest, e)
		}
		rest[0] = 0
		if b[len(x.b)] != 0xfe {
			t.Error("Take shares its argument")
		}
		for cut := range x.b {
			if n, rest, e := varint.Take(x.b[:cut]); n != 0 || len(rest) != 0 || e != api.ErrShort {
				t.Errorf("Take of %x: %d %x %d", x.b[:cut], n, rest, e)
			}
			if l, e := varint.All(append([]byte{5, 0x40, 6}, x.b[:cut]...)); cut > 0 && (e != api.ErrShort || len(l) != 0) {
				t.Errorf("All of a part of %x: %v %d", x.b, l, e)
			}
		}
		if l, e := varint.All(append([]byte{5, 0x40, 6}, x.b...)); e != api.OK || !slices.Equal(l, []uint64{5, 6, x.want}) {
			t.Errorf("All: %v %d", l, e)
		}
	}
	if l, e := varint.All(nil); e != api.OK || len(l) != 0 {
		t.Errorf("All of nothing: %v %d", l, e)
	}
	if n, rest, e := varint.Take([]byte{1}); n != 1 || len(rest) != 0 || e != api.OK {
		t.Errorf("Take of one byte: %d %x %d", n, rest, e)
	}
}

// P39.3: the smallest size whose half window holds the difference.
func TestBits(t *testing.T) {
	for _, x := range []struct {
		diff uint64
		want int
	}{{1, 1}, {127, 1}, {128, 1}, {129, 2}, {32768, 2}, {32769, 3}, {1 << 23, 3}, {1<<23 + 1, 4}, {1 << 31, 4}, {1<<31 + 1, 0}, {1 << 40, 0}} {
		for _, acked := range []uint64{0, 5, 0xac5c02, 1<<62 - 1 - x.diff} {
			want := api.OK
			if x.want == 0 {
				want = api.ErrArg
			}
			if got, e := varint.Bits(acked+x.diff, acked); got != x.want || e != want {
				t.Errorf("Bits(%d, %d) = %d %d", acked+x.diff, acked, got, e)
			}
		}
	}
	for _, x := range [][2]uint64{{5, 5}, {5, 6}, {0, 0}, {1 << 62, 1<<62 - 1}, {1<<64 - 1, 1<<64 - 2}, {0, 1<<64 - 1}, {5, 1<<64 - 1}} {
		if got, e := varint.Bits(x[0], x[1]); got != 0 || e != api.ErrArg {
			t.Errorf("Bits(%d, %d) = %d %d", x[0], x[1], got, e)
		}
	}
}

// P39.4, example 1: the number that is near the expected one.
func TestExpand(t *testing.T) {
	const top = 1 << 62
	for _, x := range []struct {
		expected, told uint64
		size           int
		want           uint64
	}{
		{0xa82f30eb, 0x9b32, 2, 0xa82f9b32}, {0, 0, 1, 0}, {0, 255, 1, 255}, {0x100, 0x80, 1, 0x180}, {0x100, 0x81, 1, 0x81}, {0x17f, 0xff, 1, 0x1ff}, {0x17f, 0, 1, 0x100}, {0x180, 0, 1, 0x200}, {0x181, 0, 1, 0x200}, {0x181, 1, 1, 0x201}, {0x181, 2, 1, 0x102},
		{0x7f, 0xff, 1, 0xff}, {0x10000, 0x8001, 2, 0x8001}, {0x10000, 0x8000, 2, 0x18000}, {0x1ffffff, 0, 3, 0x2000000}, {0x100000000, 0x80000001, 4, 0x80000001}, {0x1ffffffff, 0, 4, 0x200000000}, {5, 0xffffffff, 4, 0xffffffff},
		{top - 1, 0, 1, top - 256}, {top - 1, 127, 1, top - 256 + 127}, {top - 1, 255, 1, top - 1}, {top - 257, 0, 1, top - 256}, {top - 256, 255, 1, top - 257}, {top - 1, 0, 4, top - 1<<32}, {top - 257, 1, 1, top - 255}, {top - 513, 0, 1, top - 512},
	} {
		if got, e := varint.Expand(x.expected, x.told, x.size); got != x.want || e != api.OK {
			t.Errorf("Expand(%x, %x, %d) = %x %d, want %x", x.expected, x.told, x.size, got, e, x.want)
		}
	}
	for _, x := range []struct {
		expected, told uint64
		size           int
	}{
		{5, 0, 0}, {5, 0, 5}, {5, 0, -1}, {5, 0, 8}, {5, 0, 1<<63 - 1}, {5, 0, -1 << 63}, {top, 0, 1}, {1<<64 - 1, 0, 4}, {5, 256, 1}, {5, 65536, 2}, {5, 1 << 24, 3}, {5, 1 << 32, 4}, {5, 1<<64 - 1, 4},
	} {
		if got, e := varint.Expand(x.expected, x.told, x.size); got != 0 || e != api.ErrArg {
			t.Errorf("Expand(%x, %x, %d) = %x %d", x.expected, x.told, x.size, got, e)
		}
	}
	for size := 1; size <= 4; size++ {
		if got, e := varint.Expand(top-1, 1<<(8*size)-1, size); got != top-1 || e != api.OK {
			t.Errorf("the greatest of %d bytes: %x %d", size, got, e)
		}
	}
}

// P39.4: Expand follows the words of the document, near the bounds and elsewhere.
func TestExpandSlow(t *testing.T) {
	rnd := rand.New(rand.NewSource(2))
	for range 20000 {
		size := 1 + rnd.Intn(4)
		w := uint64(1) << (8 * size)
		expected := []uint64{rnd.Uint64() >> 2, uint64(rnd.Intn(1 << 10)), 1<<62 - 1 - uint64(rnd.Intn(1<<10)), rnd.Uint64() >> (2 + rnd.Intn(60))}[rnd.Intn(4)]
		told := []uint64{rnd.Uint64() % w, uint64(rnd.Intn(3)), w - 1 - uint64(rnd.Intn(3)), (expected + w/2 + uint64(rnd.Intn(5)) - 2) % w}[rnd.Intn(4)]
		n := expected&^(w-1) | told
		want := n
		if n+w/2 <= expected && n < 1<<62-w {
			want = n + w
		} else if n > expected+w/2 && n >= w {
			want = n - w
		}
		if got, e := varint.Expand(expected, told, size); got != want || e != api.OK {
			t.Fatalf("Expand(%x, %x, %d) = %x %d, want %x", expected, told, size, got, e, want)
		}
	}
}

// P39.5: Take inverts Put, and Expand recovers what Bits says must be sent.
func TestInverse(t *testing.T) {
	rnd := rand.New(rand.NewSource(1))
	for range 5000 {
		n := rnd.Uint64() >> (2 + rnd.Intn(62))
		b, e := varint.Put(nil, n)
		if e != api.OK || len(b) != varint.Size(n) {
			t.Fatalf("Put: %x %d", b, e)
		}
		if got, rest, e := varint.Take(b); got != n || len(rest) != 0 || e != api.OK {
			t.Fatalf("Take: %d %x %d, want %d", got, rest, e, n)
		}
		acked := n - min(n, 1+uint64(rnd.Int63n(1<<(1+rnd.Intn(31)))))
		size, e := varint.Bits(n, acked)
		if e != api.OK {
			continue
		}
		told := octet.Read(octet.Put(nil, n, size)).Num(size)
		for _, expected := range []uint64{acked + 1, n, acked + 1 + uint64(rnd.Int63n(int64(n-acked)))} {
			if got, e := varint.Expand(expected, told, size); got != n || e != api.OK {
				t.Fatalf("Expand(%x, %x, %d) = %x %d, want %x", expected, told, size, got, e, n)
			}
		}
	}
}
