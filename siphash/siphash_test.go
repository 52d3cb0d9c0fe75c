package siphash_test

import (
	"bytes"
	"testing"

	"counterfoil/octet"
	"counterfoil/siphash"
)

// rising is the key 00 01 .. 0f.
var rising = siphash.Of(0x0001020304050607, 0x08090a0b0c0d0e0f)

// vectors are the sums of the reference implementation for the bytes 00 01 .. of each length, under the key rising, little-endian.
var vectors = []uint64{
	0x726fdb47dd0e0e31, 0x74f839c593dc67fd, 0x0d6c8009d9a94f5a, 0x85676696d7fb7e2d, 0xcf2794e0277187b7, 0x18765564cd99a68d,
	0xcbc9466e58fee3ce, 0xab0200f58b01d137, 0x93f5f5799a932462, 0x9e0082df0ba9e4b0, 0x7a5dbbc594ddb9f3, 0xf4b32f46226bada7,
	0x751e8fbc860ee5fb, 0x14ea5627c0843d90, 0xf723ca908e7af2ee, 0xa129ca6149be45e5,
}

// P10.1: the sums of the reference implementation, example 1 among them.
func TestSum(t *testing.T) {
	for n, want := range vectors {
		b := make([]byte, n, n+9)
		for i := range b {
			b[i] = byte(i)
		}
		if got := siphash.Sum(rising, b); got != want {
			t.Errorf("Sum of %d bytes: %x, want %x", n, got, want)
		}
		if !bytes.Equal(b[:n+9][n:], make([]byte, 9)) {
			t.Error("Sum wrote into spare capacity")
		}
	}
}

// P10.1: more than 255 bytes: the length counts modulo 256, and every byte and the whole key matter.
func TestSumLong(t *testing.T) {
	seen := map[uint64]int{}
	for n := 250; n < 600; n++ {
		b := make([]byte, n)
		seen[siphash.Sum(siphash.Key{}, b)]++
		b[n-1] = 1
		seen[siphash.Sum(siphash.Key{}, b)]++
	}
	if len(seen) != 700 {
		t.Errorf("%d sums of 700", len(seen))
	}
	seen = map[uint64]int{siphash.Sum(siphash.Key{}, nil): 1}
	for i := range 16 {
		k := siphash.Key{}
		k[i] = 1
		seen[siphash.Sum(k, nil)]++
	}
	if len(seen) != 17 {
		t.Errorf("%d sums of 17 keys", len(seen))
	}
	// The last word of 256 bytes holds a length of 0: nothing but the zero bytes before it tells the sum from a shorter one's.
	b := make([]byte, 256)
	if got, want := siphash.Sum(rising, b), slowSum(rising, b); got != want {
		t.Errorf("Sum of 256 bytes: %x, want %x", got, want)
	}
}

// slowSum follows the words of the document line by line.
func slowSum(k siphash.Key, b []byte) uint64 {
	value := func(b []byte) uint64 {
		n := uint64(0)
		for i := 7; i >= 0; i-- {
			n = n<<8 | uint64(b[i])
		}
		return n
	}
	rot := func(n uint64, by int) uint64 { return n<<by | n>>(64-by) }
	x, y := value(k[:8]), value(k[8:])
	v0, v1, v2, v3 := x^0x736f6d6570736575, y^0x646f72616e646f6d, x^0x6c7967656e657261, y^0x7465646279746573
	round := func() {
		v0 += v1
		v1 = rot(v1, 13)
		v1 ^= v0
		v0 = rot(v0, 32)
		v2 += v3
		v3 = rot(v3, 16)
		v3 ^= v2
		v0 += v3
		v3 = rot(v3, 21)
		v3 ^= v0
		v2 += v1
		v1 = rot(v1, 17)
		v1 ^= v2
		v2 = rot(v2, 32)
	}
	all := append([]byte{}, b...)
	for len(all)%8 != 7 {
		all = append(all, 0)
	}
	all = append(all, byte(len(b)%256))
	for i := 0; i < len(all); i += 8 {
		m := value(all[i : i+8])
		v3 ^= m
		round()
		round()
		v0 ^= m
	}
	v2 ^= 0xff
	for range 4 {
		round()
	}
	return v0 ^ v1 ^ v2 ^ v3
}

// P10.1: sums of many lengths agree with the words of the document.
func TestSumSlow(t *testing.T) {
	for n := range 300 {
		b := bytes.Repeat([]byte{byte(n * 37), 0xff, 0x80}, n/3+1)[:n]
		k := siphash.Of(uint64(n)*0x9e3779b97f4a7c15, ^uint64(n))
		if got, want := siphash.Sum(k, b), slowSum(k, b); got != want {
			t.Errorf("Sum of %d bytes: %x, want %x", n, got, want)
		}
	}
}

// P10.2: a key of two numbers, most significant byte first.
func TestOf(t *testing.T) {
	if rising != (siphash.Key{0, 1, 2, 3, 4, 5, 6, 7, 8, 9, 10, 11, 12, 13, 14, 15}) {
		t.Errorf("Of %x", rising)
	}
	if k := siphash.Of(1, 0xff00000000000002); k != (siphash.Key{7: 1, 8: 0xff, 15: 2}) {
		t.Errorf("Of %x", k)
	}
}

// P10.2: a derived key consists of two sums.
func TestDerive(t *testing.T) {
	for _, use := range []uint64{0, 1, 2, 0x0102030405060708, 1<<64 - 1} {
		want := siphash.Of(siphash.Sum(rising, octet.Put([]byte{1}, use, 8)), siphash.Sum(rising, octet.Put([]byte{2}, use, 8)))
		if got := siphash.Derive(rising, use); got != want {
			t.Errorf("Derive(%x) = %x, want %x", use, got, want)
		}
	}
}

// P10.2: the low bits of a number; all of it for sizes that are not from 1 to 63.
func TestFold(t *testing.T) {
	const n = 0xfedcba9876543211
	want := uint64(0)
	for size := 1; size <= 63; size++ {
		want |= n & (1 << (size - 1))
		if got := siphash.Fold(n, size); got != want {
			t.Errorf("Fold %d: %x, want %x", size, got, want)
		}
	}
	for _, size := range []int{0, 64, 65, 128, -1, -64, 1<<63 - 1, -1 << 63} {
		if got := siphash.Fold(n, size); got != n {
			t.Errorf("Fold %d: %x", size, got)
		}
	}
}
