package octet_test

import (
	"bytes"
	"testing"

	"counterfoil/api"
	"counterfoil/octet"
)

// P1.1: the low size bytes of n stand behind b, most significant byte first.
func TestPut(t *testing.T) {
	const n = 0x0123456789abcdef
	all := []byte{0x01, 0x23, 0x45, 0x67, 0x89, 0xab, 0xcd, 0xef}
	for size := range 9 {
		want := append([]byte{7, 8}, all[8-size:]...)
		if got := octet.Put([]byte{7, 8}, n, size); !bytes.Equal(got, want) {
			t.Errorf("Put size %d: %x, want %x", size, got, want)
		}
	}
	if got := octet.Put(nil, 258, 4); !bytes.Equal(got, []byte{0, 0, 1, 2}) {
		t.Errorf("example 1: %x", got)
	}
}

// P1.1: a size below 0 counts as 0, a size above 8 as 8.
func TestPutOddSizes(t *testing.T) {
	for _, size := range []int{-1, -100, -1 << 63} {
		if got := octet.Put([]byte{5}, 1, size); !bytes.Equal(got, []byte{5}) {
			t.Errorf("Put size %d: %x", size, got)
		}
	}
	for _, size := range []int{9, 100, 1<<63 - 1} {
		if got := octet.Put([]byte{5}, 258, size); !bytes.Equal(got, []byte{5, 0, 0, 0, 0, 0, 0, 1, 2}) {
			t.Errorf("Put size %d: %x", size, got)
		}
	}
}

// Memory: Put touches neither b nor its spare capacity, and Set does not touch b.
func TestPutSetLeaveArguments(t *testing.T) {
	b := make([]byte, 2, 16)
	whole := b[:16]
	got := octet.Put(b, 0xffff, 2)
	if !bytes.Equal(whole, make([]byte, 16)) {
		t.Errorf("Put wrote into its argument: %x", whole)
	}
	got[0] = 9
	if b[0] != 0 {
		t.Error("Put shares its argument")
	}
	set, e := octet.Set(whole, 3, 0xffff, 2)
	if e != api.OK || !bytes.Equal(whole, make([]byte, 16)) {
		t.Errorf("Set wrote into its argument: %x %d", whole, e)
	}
	set[0] = 9
	if whole[0] != 0 {
		t.Error("Set shares its argument")
	}
}

// P1.1: Set replaces size bytes from at on, and nothing else.
func TestSet(t *testing.T) {
	b := []byte{10, 11, 12, 13, 14, 15, 16, 17, 18, 19}
	for size := 1; size <= 8; size++ {
		for at := 0; at+size <= len(b); at++ {
			want := bytes.Clone(b)
			copy(want[at:], octet.Put(nil, 0xa1a2a3a4a5a6a7a8, size))
			got, e := octet.Set(b, at, 0xa1a2a3a4a5a6a7a8, size)
			if e != api.OK || !bytes.Equal(got, want) {
				t.Errorf("Set at %d size %d: %x %d", at, size, got, e)
			}
		}
	}
}

// P1.1: Set returns ErrShort for a size that is not from 1 to 8, or bytes that are not within b.
func TestSetErrors(t *testing.T) {
	b := make([]byte, 10)
	for _, x := range []struct{ at, size int }{
		{0, 0}, {0, -1}, {0, 9}, {-1, 1}, {-1, 2}, {10, 1}, {9, 2}, {3, 8}, {11, 1},
		{1<<63 - 1, 8}, {-1 << 63, 1}, {0, -1 << 63}, {0, 1<<63 - 1}, {1<<63 - 1, 1<<63 - 1},
	} {
		if got, e := octet.Set(b, x.at, 1, x.size); e != api.ErrShort || len(got) != 0 {
			t.Errorf("Set at %d size %d: %x %d", x.at, x.size, got, e)
		}
	}
	if got, e := octet.Set(nil, 0, 1, 1); e != api.ErrShort || len(got) != 0 {
		t.Errorf("Set of nothing: %x %d", got, e)
	}
}

// P1.1: Equal compares bytes; nil and empty are the same.
func TestEqual(t *testing.T) {
	for _, x := range []struct {
		a, b []byte
		want bool
	}{
		{nil, nil, true}, {nil, []byte{}, true}, {[]byte{1, 2}, []byte{1, 2}, true},
		{[]byte{1, 2}, []byte{1, 3}, false}, {[]byte{1}, []byte{1, 2}, false}, {[]byte{1, 2}, []byte{1}, false},
		{[]byte{0}, nil, false}, {nil, []byte{0}, false}, {[]byte{2, 1}, []byte{1, 2}, false},
		{[]byte{0xff, 0x80}, []byte{0xff, 0x81}, false}, {[]byte{0xff, 0x80}, []byte{0xff, 0x80}, true},
	} {
		if got := octet.Equal(x.a, x.b); got != x.want {
			t.Errorf("Equal(%x, %x) = %v", x.a, x.b, got)
		}
	}
}

// P1.2: each method consumes the next bytes, in order.
func TestReader(t *testing.T) {
	r := octet.Read([]byte{1, 2, 3, 4, 5, 6, 7, 8, 9, 10, 11, 12, 13, 14})
	if x := r.Byte(); x != 1 {
		t.Errorf("Byte %x", x)
	}
	if x := r.Word(); x != 0x0203 {
		t.Errorf("Word %x", x)
	}
	if x := r.Long(); x != 0x04050607 {
		t.Errorf("Long %x", x)
	}
	if x := r.Num(3); x != 0x08090a {
		t.Errorf("Num %x", x)
	}
	if x := r.Num(0); x != 0 || r.Left() != 4 {
		t.Errorf("Num of 0 bytes %x, %d left", x, r.Left())
	}
	if x := r.Bytes(2); !bytes.Equal(x, []byte{11, 12}) {
		t.Errorf("Bytes %x", x)
	}
	if x := r.Bytes(0); len(x) != 0 || r.Left() != 2 {
		t.Errorf("Bytes of none %x, %d left", x, r.Left())
	}
	if x := r.Rest(); !bytes.Equal(x, []byte{13, 14}) {
		t.Errorf("Rest %x", x)
	}
	if x := r.Rest(); len(x) != 0 || r.Left() != 0 || r.Bad() {
		t.Errorf("Rest of nothing %x, %d left, bad %v", x, r.Left(), r.Bad())
	}
}

// P1.2: what is missing reads as 0 or empty, consumes all, and spoils the Reader.
func TestReaderShort(t *testing.T) {
	for name, read := range map[string]func(r *octet.Reader) bool{
		"Word":        func(r *octet.Reader) bool { return r.Word() == 0 },
		"Long":        func(r *octet.Reader) bool { return r.Long() == 0 },
		"Num 2":       func(r *octet.Reader) bool { return r.Num(2) == 0 },
		"Num 8":       func(r *octet.Reader) bool { return r.Num(8) == 0 },
		"Num 9":       func(r *octet.Reader) bool { return r.Num(9) == 0 },
		"Num -1":      func(r *octet.Reader) bool { return r.Num(-1) == 0 },
		"Bytes 2":     func(r *octet.Reader) bool { return len(r.Bytes(2)) == 0 },
		"Bytes -1":    func(r *octet.Reader) bool { return len(r.Bytes(-1)) == 0 },
		"Bytes most":  func(r *octet.Reader) bool { return len(r.Bytes(1<<63-1)) == 0 },
		"Bytes least": func(r *octet.Reader) bool { return len(r.Bytes(-1<<63)) == 0 },
	} {
		r := octet.Read([]byte{1})
		if !read(r) || r.Left() != 0 || !r.Bad() {
			t.Errorf("%s: %d left, bad %v", name, r.Left(), r.Bad())
		}
		if r.Byte() != 0 || r.Num(0) != 0 || len(r.Bytes(0)) != 0 || len(r.Rest()) != 0 || !r.Bad() {
			t.Errorf("%s: something is left, or the Reader is good again", name)
		}
	}
	r := octet.Read(nil)
	if r.Bad() || r.Byte() != 0 || !r.Bad() {
		t.Error("Byte of nothing")
	}
}

// P1.2: sizes up to 8 are integers, 9 is none however many bytes there are.
func TestReaderWidths(t *testing.T) {
	b := []byte{0x81, 0x82, 0x83, 0x84, 0x85, 0x86, 0x87, 0x88, 0x89, 0x8a}
	want := uint64(0)
	for size := range 9 {
		r := octet.Read(b)
		if size > 0 {
			want = want<<8 | uint64(b[size-1])
		}
		if got := r.Num(size); got != want || r.Left() != 10-size || r.Bad() {
			t.Errorf("Num(%d) = %x, want %x", size, got, want)
		}
	}
	r := octet.Read(b)
	if r.Num(9) != 0 || r.Left() != 0 || !r.Bad() {
		t.Error("Num(9) of ten bytes")
	}
}

// P1.3: Left counts what remains; a nil Reader is bad and has nothing.
func TestLeftBad(t *testing.T) {
	r := octet.Read([]byte{1, 2, 3})
	for want := 3; want > 0; want-- {
		if r.Left() != want || r.Bad() {
			t.Errorf("Left %d, want %d, bad %v", r.Left(), want, r.Bad())
		}
		r.Byte()
	}
	if r.Left() != 0 || r.Bad() {
		t.Error("all was read, and nothing was missing")
	}
	var none *octet.Reader
	if none.Left() != 0 || !none.Bad() {
		t.Error("nil Reader")
	}
}

// P1.4: a Reader returns the integers that Put encoded.
func TestReadInvertsPut(t *testing.T) {
	nums := []uint64{0, 1, 127, 128, 255, 256, 0xdeadbeefcafebabe, 1<<64 - 1, 1 << 63}
	for size := 1; size <= 8; size++ {
		var b []byte
		for _, n := range nums {
			b = octet.Put(b, n, size)
		}
		r := octet.Read(b)
		for _, n := range nums {
			want := n
			if size < 8 {
				want = n % (1 << (8 * size))
			}
			if got := r.Num(size); got != want {
				t.Errorf("size %d: %x, want %x", size, got, want)
			}
		}
		if r.Left() != 0 || r.Bad() {
			t.Errorf("size %d: %d left", size, r.Left())
		}
	}
}
