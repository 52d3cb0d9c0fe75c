package ring_test

import (
	"bytes"
	"testing"

	"counterfoil/api"
	"counterfoil/ring"
	"counterfoil/siphash"
)

var key = siphash.Of(0x0102030405060708, 0x090a0b0c0d0e0f10)

// P11.1: New, Epoch, Bit and Next; rings compare by key and epoch.
func TestRing(t *testing.T) {
	for _, x := range []struct {
		now, next uint64
		bit       int
	}{{0, 1, 0}, {1, 2, 1}, {2, 3, 0}, {7, 8, 1}, {1<<64 - 2, 1<<64 - 1, 0}, {1<<64 - 1, 0, 1}} {
		r := ring.New(key, x.now)
		if r.Epoch() != x.now || r.Bit() != x.bit {
			t.Errorf("epoch %d: %d, bit %d", x.now, r.Epoch(), r.Bit())
		}
		if r.Next() != ring.New(key, x.next) || r.Next().Epoch() != x.next {
			t.Errorf("epoch %d: next is %d", x.now, r.Next().Epoch())
		}
		if r != ring.New(key, x.now) || r == r.Next() || r == ring.New(siphash.Key{}, x.now) {
			t.Errorf("epoch %d: comparison", x.now)
		}
	}
	if (ring.Ring{}) != ring.New(siphash.Key{}, 0) || ring.Size != 24 {
		t.Error("the zero Ring")
	}
}

// P11.2: At knows the keys of this epoch and of the previous one.
func TestAt(t *testing.T) {
	for _, now := range []uint64{0, 1, 2, 3, 1000, 1<<64 - 1} {
		r := ring.New(key, now)
		if k, ok := r.At(int(now % 2)); !ok || k != siphash.Derive(key, now) {
			t.Errorf("epoch %d: its own key %x %v", now, k, ok)
		}
		k, ok := r.At(1 - int(now%2))
		if now == 0 && (ok || k != siphash.Key{}) || now != 0 && (!ok || k != siphash.Derive(key, now-1)) {
			t.Errorf("epoch %d: the previous key %x %v", now, k, ok)
		}
		for _, bit := range []int{-1, 2, 3, -2, 1 << 32, 1<<63 - 1, -1 << 63} {
			if k, ok := r.At(bit); ok || k != (siphash.Key{}) {
				t.Errorf("epoch %d, bit %d: %x %v", now, bit, k, ok)
			}
		}
	}
}

// P11.3: Bytes and Parse, which accepts 24 bytes only.
func TestBytes(t *testing.T) {
	r := ring.New(key, 0x1112131415161718)
	want := []byte{1, 2, 3, 4, 5, 6, 7, 8, 9, 10, 11, 12, 13, 14, 15, 16, 0x11, 0x12, 0x13, 0x14, 0x15, 0x16, 0x17, 0x18}
	if got := r.Bytes(); !bytes.Equal(got, want) {
		t.Errorf("Bytes %x", got)
	}
	r.Bytes()[0] = 99
	if got, e := ring.Parse(want); e != api.OK || got != r {
		t.Errorf("Parse %+v %d", got, e)
	}
	for n := range 50 {
		if n == 24 {
			continue
		}
		if got, e := ring.Parse(make([]byte, n)); e != api.ErrShort || got != (ring.Ring{}) {
			t.Errorf("Parse of %d bytes: %+v %d", n, got, e)
		}
		if got, e := ring.Parse(bytes.Repeat([]byte{1}, n)); e != api.ErrShort || got != (ring.Ring{}) {
			t.Errorf("Parse of %d bytes: %+v %d", n, got, e)
		}
	}
}

// P11.4: a ring and its Next have the same key for the bit of the ring.
func TestNextKeepsKey(t *testing.T) {
	for _, now := range []uint64{0, 1, 2, 99, 1<<64 - 2} {
		r := ring.New(key, now)
		a, ok := r.At(r.Bit())
		b, okNext := r.Next().At(r.Bit())
		if !ok || !okNext || a != b {
			t.Errorf("epoch %d: %x %v, %x %v", now, a, ok, b, okNext)
		}
	}
}
