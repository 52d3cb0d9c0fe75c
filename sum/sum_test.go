package sum_test

import (
	"math/big"
	"math/rand"
	"testing"

	"counterfoil/sum"
)

var header = []byte{0x45, 0, 0, 0x73, 0, 0, 0x40, 0, 0x40, 0x11, 0, 0, 0xc0, 0xa8, 0, 1, 0xc0, 0xa8, 0, 0xc7}

// slowOf computes a checksum as the document words it, with numbers of any size.
func slowOf(b []byte) uint16 {
	if len(b)%2 == 1 {
		b = append(append([]byte{}, b...), 0)
	}
	n := new(big.Int)
	for i := 0; i < len(b); i += 2 {
		n.Add(n, big.NewInt(int64(b[i])*256+int64(b[i+1])))
	}
	for n.Cmp(big.NewInt(65535)) > 0 {
		low := new(big.Int).And(n, big.NewInt(65535))
		n.Add(low, new(big.Int).Rsh(n, 16))
	}
	return ^uint16(n.Uint64())
}

func set(b []byte, at int, w uint16) []byte {
	out := append([]byte{}, b...)
	out[at], out[at+1] = byte(w>>8), byte(w)
	return out
}

// P2.1, example 1, and small inputs with known sums.
func TestOf(t *testing.T) {
	for _, x := range []struct {
		b    []byte
		want uint16
	}{
		{header, 0xb861}, {nil, 0xffff}, {[]byte{1}, 0xfeff}, {[]byte{1, 2}, 0xfefd}, {[]byte{0xff, 0xff}, 0},
		{[]byte{0xff, 0xff, 0, 1}, 0xfffe}, {[]byte{1, 2, 3}, ^uint16(0x0402)},
		{[]byte{0xff, 0xff, 0xff, 0xff, 0xff, 0xff}, 0}, {[]byte{0x80, 0, 0x80, 0}, 0xfffe},
	} {
		if got := sum.Of(x.b); got != x.want {
			t.Errorf("Of(%x) = %x, want %x", x.b, got, x.want)
		}
	}
	if got := sum.Of(); got != 0xffff {
		t.Errorf("Of no parts: %x", got)
	}
}

// P2.1: a total that is folded more than once.
func TestOfFoldsOften(t *testing.T) {
	many := make([]byte, 1<<18+2)
	for i := range many {
		many[i] = 0xff
	}
	many[len(many)-1], many[len(many)-2] = 0, 1
	if got, want := sum.Of(many), slowOf(many); got != want {
		t.Errorf("%x, want %x", got, want)
	}
	// 131070 words of 0xffff and one of 1 add up to 1fffd0003, which folds to 20000, to 2.
	b := make([]byte, 2*0x1fffe, 2*0x1ffff)
	for i := range b {
		b[i] = 0xff
	}
	b = append(b, 0, 1)
	if got, want := sum.Of(b), slowOf(b); got != want {
		t.Errorf("%x, want %x", got, want)
	}
}

// P2.1: parts count as one, and only the last one may be odd.
func TestOfParts(t *testing.T) {
	rnd := rand.New(rand.NewSource(1))
	for range 200 {
		var parts [][]byte
		var all []byte
		for i := rnd.Intn(5); i >= 0; i-- {
			n := rnd.Intn(20) * 2
			if i == 0 {
				n = rnd.Intn(40)
			}
			part := make([]byte, n)
			rnd.Read(part)
			parts, all = append(parts, part), append(all, part...)
		}
		if got, want := sum.Of(parts...), slowOf(all); got != want {
			t.Fatalf("Of(%x) = %x, want %x", parts, got, want)
		}
		if got, want := sum.Right(parts...), slowOf(all) == 0; got != want {
			t.Fatalf("Right(%x) = %v", parts, got)
		}
	}
}

// P2.1: Right holds for bytes that contain their checksum, and for no others.
func TestRight(t *testing.T) {
	b := set(header, 10, sum.Of(header))
	if !sum.Right(b) || !sum.Right(b[:8], b[8:14], b[14:]) {
		t.Error("Right of bytes with their checksum")
	}
	if sum.Right(header) || sum.Right(set(b, 10, 0xb862)) || sum.Right(set(b, 0, 0x4600)) || sum.Right() {
		t.Error("Right of wrong bytes")
	}
}

// P2.2: Update is the complement of the folded sum of ^sum, ^was and now.
func TestUpdate(t *testing.T) {
	for _, x := range []struct{ sum, was, now, want uint16 }{
		{0xb861, 0, 0, 0xb861}, {0xdd2f, 0x5555, 0x3285, 0x0000}, {0, 0, 0, 0}, {0xffff, 0xffff, 0xffff, 0},
		{0xffff, 0xffff, 1, 0xfffe}, {0, 0, 0xffff, 0}, {0xffff, 0, 0, 0}, {0x1234, 0x0001, 0x0002, 0x1233},
		{0x1234, 0x4011, 0x3f11, 0x1334}, {0, 0, 1, 0xfffe},
	} {
		if got := sum.Update(x.sum, x.was, x.now); got != x.want {
			t.Errorf("Update(%x, %x, %x) = %x, want %x", x.sum, x.was, x.now, got, x.want)
		}
	}
	rnd := rand.New(rand.NewSource(2))
	for range 1000 {
		s, was, now := uint16(rnd.Uint32()), uint16(rnd.Uint32()), uint16(rnd.Uint32())
		n := uint32(^s) + uint32(^was) + uint32(now)
		for n > 65535 {
			n = n%65536 + n/65536
		}
		if got := sum.Update(s, was, now); got != ^uint16(n) {
			t.Fatalf("Update(%x, %x, %x) = %x", s, was, now, got)
		}
	}
}

// P2.2: UpdateLong updates for the high words, then for the low ones.
func TestUpdateLong(t *testing.T) {
	rnd := rand.New(rand.NewSource(3))
	for range 1000 {
		s, was, now := uint16(rnd.Uint32()), rnd.Uint32(), rnd.Uint32()
		want := sum.Update(sum.Update(s, uint16(was>>16), uint16(now>>16)), uint16(was), uint16(now))
		if got := sum.UpdateLong(s, was, now); got != want {
			t.Fatalf("UpdateLong(%x, %x, %x) = %x, want %x", s, was, now, got, want)
		}
	}
	if got := sum.UpdateLong(0x5000, 0x00010000, 0x00020000); got != 0x4fff {
		t.Errorf("high words: %x", got)
	}
	if got := sum.UpdateLong(0x5000, 0x00000003, 0x00000001); got != 0x5002 {
		t.Errorf("low words: %x", got)
	}
}

// P2.2: UpdateAll updates for each change in order; none leaves the sum as it is.
func TestUpdateAll(t *testing.T) {
	if got := sum.UpdateAll(0xffff); got != 0xffff {
		t.Errorf("no changes: %x", got)
	}
	l := []sum.Change{{1, 2}, {0x4011, 0x3f11}, {0xffff, 0}, {0, 0}}
	want := uint16(0x1234)
	for _, c := range l {
		want = sum.Update(want, c.Was, c.Now)
	}
	if got := sum.UpdateAll(0x1234, l...); got != want {
		t.Errorf("%x, want %x", got, want)
	}
	if l[0] != (sum.Change{Was: 1, Now: 2}) {
		t.Error("changes were changed")
	}
}

// P2.3: an updated checksum stays right, unless all other words are 0.
func TestUpdateKeepsRight(t *testing.T) {
	rnd := rand.New(rand.NewSource(4))
	for range 2000 {
		b := make([]byte, 4+2*rnd.Intn(6))
		rnd.Read(b)
		if rnd.Intn(2) == 0 {
			clear(b[4:])
		}
		b = set(b, 0, 0)
		b = set(b, 0, sum.Of(b))
		if !sum.Right(b) {
			t.Fatalf("not right to begin with: %x", b)
		}
		at := 2 + 2*rnd.Intn(len(b)/2-1)
		now := uint16(rnd.Uint32())
		if rnd.Intn(3) == 0 {
			now = []uint16{0, 0xffff, 1}[rnd.Intn(3)]
		}
		changed := set(b, at, now)
		if allZero(b[2:]) || allZero(changed[2:]) {
			continue
		}
		was := uint16(b[at])<<8 | uint16(b[at+1])
		changed = set(changed, 0, sum.Update(uint16(b[0])<<8|uint16(b[1]), was, now))
		if !sum.Right(changed) {
			t.Fatalf("%x at %d became %x", b, at, changed)
		}
	}
}

func allZero(b []byte) bool {
	for _, c := range b {
		if c != 0 {
			return false
		}
	}
	return true
}
