package capture_test

import (
	"bytes"
	"encoding/binary"
	"math/rand"
	"slices"
	"testing"

	"counterfoil/api"
	"counterfoil/capture"
)

// files are the four kinds of files.
var files = []capture.File{
	{Most: 65535, Link: 101}, {Small: true, Most: 65535, Link: 101}, {Nano: true, Most: 0x01020304, Link: 0x05060708}, {Small: true, Nano: true, Most: 0x01020304, Link: 0x05060708},
}

// order is that of the integers in a file.
func order(f capture.File) binary.ByteOrder {
	if f.Small {
		return binary.LittleEndian
	}
	return binary.BigEndian
}

// slowHead is the file header as the document words it.
func slowHead(f capture.File) []byte {
	first := uint32(0xa1b2c3d4)
	if f.Nano {
		first = 0xa1b23c4d
	}
	b := make([]byte, 24)
	o := order(f)
	o.PutUint32(b, first)
	o.PutUint16(b[4:], 2)
	o.PutUint16(b[6:], 4)
	o.PutUint32(b[16:], f.Most)
	o.PutUint32(b[20:], f.Link)
	return b
}

// slowWrite is the encoding of a packet, valid or not.
func slowWrite(f capture.File, p capture.Packet) []byte {
	b := make([]byte, 16)
	o := order(f)
	o.PutUint32(b, p.Sec)
	o.PutUint32(b[4:], p.Part)
	o.PutUint32(b[8:], uint32(len(p.Data)))
	o.PutUint32(b[12:], p.Len)
	return append(b, p.Data...)
}

func samePackets(a, b []capture.Packet) bool {
	return slices.EqualFunc(a, b, func(x, y capture.Packet) bool {
		return x.Sec == y.Sec && x.Part == y.Part && x.Len == y.Len && bytes.Equal(x.Data, y.Data)
	})
}

// P45.1, example 1: the file header.
func TestHead(t *testing.T) {
	for _, f := range append(files, capture.File{}, capture.File{Small: true, Most: 1<<32 - 1, Link: 1<<32 - 1}) {
		if got := f.Head(); !bytes.Equal(got, slowHead(f)) {
			t.Errorf("Head of %+v: %x", f, got)
		}
	}
	if got := files[0].Head(); !bytes.Equal(got[:8], []byte{0xa1, 0xb2, 0xc3, 0xd4, 0, 2, 0, 4}) {
		t.Errorf("example 1: %x", got)
	}
	if got := files[3].Head(); !bytes.Equal(got[:8], []byte{0x4d, 0x3c, 0xb2, 0xa1, 2, 0, 4, 0}) {
		t.Errorf("Head: %x", got)
	}
}

// P45.1: the bounds of valid packets, and that Write of any other one is nothing.
func TestRightWrite(t *testing.T) {
	data := func(n int) []byte { return bytes.Repeat([]byte{7}, n) }
	for _, small := range []bool{false, true} {
		for _, x := range []struct {
			nano bool
			most uint32
			p    capture.Packet
			want bool
		}{
			{false, 5, capture.Packet{Sec: 0x01020304, Part: 999999, Len: 0x0a0b0c0d, Data: data(5)}, true}, {false, 5, capture.Packet{Part: 1000000, Len: 5, Data: data(5)}, false}, {true, 5, capture.Packet{Part: 1000000, Len: 5, Data: data(5)}, true},
			{true, 5, capture.Packet{Part: 999999999, Len: 5, Data: data(5)}, true}, {true, 5, capture.Packet{Part: 1000000000, Len: 5, Data: data(5)}, false}, {false, 5, capture.Packet{Part: 1<<32 - 1, Len: 5}, false}, {false, 5, capture.Packet{Len: 6, Data: data(6)}, false},
			{false, 5, capture.Packet{Len: 4, Data: data(5)}, false}, {false, 5, capture.Packet{Len: 6, Data: data(5)}, true}, {false, 5, capture.Packet{Len: 1<<32 - 1}, true}, {false, 0, capture.Packet{}, true}, {false, 0, capture.Packet{Len: 1, Data: data(1)}, false}, {true, 1<<32 - 1, capture.Packet{Sec: 1<<32 - 1, Len: 3, Data: data(3)}, true},
		} {
			f := capture.File{Small: small, Nano: x.nano, Most: x.most}
			got := f.Write(x.p)
			if f.Right(x.p) != x.want || x.want && !bytes.Equal(got, slowWrite(f, x.p)) || !x.want && len(got) != 0 {
				t.Errorf("%+v, %+v: Right %v, Write %x", f, x.p, f.Right(x.p), got)
			}
			if len(got) > 16 {
				got[16]++
				if x.p.Data[0] != 7 {
					t.Error("Write shares its argument")
				}
			}
		}
	}
}

// P45.2: Open, and its errors.
func TestOpen(t *testing.T) {
	for _, f := range files {
		b := append(f.Head(), 9, 8, 7)
		got, rest, e := capture.Open(b)
		if got != f || !bytes.Equal(rest, []byte{9, 8, 7}) || e != api.OK {
			t.Errorf("Open of %+v: %+v %x %d", f, got, rest, e)
		}
		rest[0] = 0
		if b[24] != 9 {
			t.Error("Open shares its argument")
		}
		if got, rest, e := capture.Open(b[:24]); got != f || len(rest) != 0 || e != api.OK {
			t.Errorf("Open of the header alone: %+v %x %d", got, rest, e)
		}
		for n := range 24 {
			if got, rest, e := capture.Open(b[:n]); got != (capture.File{}) || len(rest) != 0 || e != api.ErrShort {
				t.Errorf("Open of %d bytes: %+v %x %d", n, got, rest, e)
			}
		}
		for i := range 16 {
			wrong := bytes.Clone(b)
			wrong[i] ^= 1
			if got, rest, e := capture.Open(wrong); got != (capture.File{}) || len(rest) != 0 || e != api.ErrForm {
				t.Errorf("Open with byte %d changed: %+v %x %d", i, got, rest, e)
			}
			if f, l, e := capture.Read(wrong); f != (capture.File{}) || len(l) != 0 || e != api.ErrForm {
				t.Errorf("Read with byte %d changed: %d", i, e)
			}
		}
	}
	mixed := slowHead(files[0])
	copy(mixed[4:], []byte{2, 0, 4, 0})
	if _, _, e := capture.Open(mixed); e != api.ErrForm {
		t.Errorf("two orders: %d", e)
	}
}

// P45.3: All ends ahead of what is no complete valid packet, and Read does not accept it.
func TestAllRead(t *testing.T) {
	for _, f := range []capture.File{{Most: 6, Link: 1}, {Small: true, Most: 6}, {Nano: true, Most: 6}, {Small: true, Nano: true, Most: 6}} {
		part := uint32(999999)
		if f.Nano {
			part = 999999999
		}
		one, two := capture.Packet{Sec: 1, Part: part, Len: 9, Data: []byte("abcdef")}, capture.Packet{Sec: 2, Len: 7}
		both := slices.Concat(slowWrite(f, one), slowWrite(f, two))
		for name, x := range map[string]struct {
			b    []byte
			want []capture.Packet
			e    api.Errno
		}{
			"nothing": {nil, nil, api.OK}, "both": {both, []capture.Packet{one, two}, api.OK}, "a byte more": {append(bytes.Clone(both), 0), []capture.Packet{one, two}, api.ErrForm}, "a byte less": {both[:len(both)-1], []capture.Packet{one}, api.ErrForm},
			"15 bytes": {both[:15], nil, api.ErrForm}, "data missing": {both[:21], nil, api.ErrForm}, "one": {both[:22], []capture.Packet{one}, api.OK}, "longer than Most": {slices.Concat(both, slowWrite(f, capture.Packet{Len: 9, Data: []byte("abcdefg")}), both), []capture.Packet{one, two}, api.ErrForm},
			"longer than Len": {slices.Concat(slowWrite(f, capture.Packet{Len: 2, Data: []byte("abc")}), both), nil, api.ErrForm}, "Part too great": {slices.Concat(both, slowWrite(f, capture.Packet{Part: part + 1, Len: 2})), []capture.Packet{one, two}, api.ErrForm},
			"far too long": {slices.Concat(both, bytes.Repeat([]byte{255}, 16)), []capture.Packet{one, two}, api.ErrForm}, "sixteen zeros": {make([]byte, 16), []capture.Packet{{}}, api.OK},
		} {
			seq := f.All(x.b)
			for range 2 {
				if got := slices.Collect(seq); !samePackets(got, x.want) {
					t.Errorf("%s: %+v, want %+v", name, got, x.want)
				}
			}
			file, l, e := capture.Read(append(f.Head(), x.b...))
			if e != x.e || e == api.OK && (file != f || !samePackets(l, x.want)) || e != api.OK && (file != (capture.File{}) || len(l) != 0) {
				t.Errorf("%s: Read %+v %+v %d", name, file, l, e)
			}
		}
	}
	if _, _, e := capture.Read(nil); e != api.ErrShort {
		t.Errorf("Read of nothing: %d", e)
	}
}

// P45.3: an iterator can be stopped anywhere, and shares nothing.
func TestAllAgain(t *testing.T) {
	f := files[1]
	p := capture.Packet{Len: 3, Data: []byte("abc")}
	b := slices.Concat(f.Write(p), f.Write(p), f.Write(p))
	before := bytes.Clone(b)
	seq := f.All(b)
	for stop := range 5 {
		n := 0
		for x := range seq {
			if n == stop {
				break
			}
			if string(x.Data) != "abc" {
				t.Errorf("packet %d: %q", n, x.Data)
			}
			x.Data[0] = 'x'
			_ = append(x.Data, 99)
			n++
		}
		if n != min(stop, 3) {
			t.Errorf("%d packets", n)
		}
	}
	if !bytes.Equal(b, before) || f.All(nil) == nil {
		t.Error("All shares its argument")
	}
}

// P45.4: Read returns the file and the packets that were written.
func TestInverse(t *testing.T) {
	rnd := rand.New(rand.NewSource(1))
	for range 500 {
		f := capture.File{Small: rnd.Intn(2) == 0, Nano: rnd.Intn(2) == 0, Most: rnd.Uint32(), Link: rnd.Uint32()}
		if rnd.Intn(2) == 0 {
			f.Most = uint32(rnd.Intn(40))
		}
		b := f.Head()
		var want []capture.Packet
		for range rnd.Intn(6) {
			p := capture.Packet{Sec: rnd.Uint32(), Part: uint32(rnd.Intn(1 << 20)), Data: make([]byte, rnd.Intn(50))}
			rnd.Read(p.Data)
			p.Len = uint32(rnd.Intn(100))
			if f.Right(p) {
				want = append(want, p)
			}
			b = append(b, f.Write(p)...)
		}
		if got, l, e := capture.Read(b); e != api.OK || got != f || !samePackets(l, want) {
			t.Fatalf("Read %+v %+v %d, want %+v %+v", got, l, e, f, want)
		}
	}
}
