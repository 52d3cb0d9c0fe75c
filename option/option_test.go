package option_test

import (
	"bytes"
	"math/rand"
	"reflect"
	"slices"
	"testing"

	"counterfoil/addr"
	"counterfoil/api"
	"counterfoil/option"
	"counterfoil/sum"
	"counterfoil/tcp"
)

// found is an option, and where it begins.
type found struct {
	at   int
	kind uint8
	data string
}

func collect(b []byte) []found {
	var l []found
	for at, o := range option.All(b) {
		l = append(l, found{at, o.Kind, string(o.Data)})
	}
	return l
}

// P44.1: the numbers of kinds, and what options a row of bytes has.
func TestAll(t *testing.T) {
	kinds := []int{option.End, option.Nothing, option.MSS, option.Scale, option.Permit, option.Blocks, option.Stamps}
	if !slices.Equal(kinds, []int{0, 1, 2, 3, 4, 5, 8}) {
		t.Errorf("kinds %v", kinds)
	}
	for name, x := range map[string]struct {
		b    []byte
		want []found
	}{
		"nothing": {nil, nil}, "one": {[]byte{2, 4, 5, 0xb4}, []found{{0, 2, "\x05\xb4"}}}, "skipped": {[]byte{1, 1, 4, 2, 1, 3, 3, 7, 1}, []found{{2, 4, ""}, {5, 3, "\x07"}}}, "an end": {[]byte{4, 2, 0, 4, 2}, []found{{0, 4, ""}}}, "an end at once": {[]byte{0, 4, 2}, nil},
		"no length": {[]byte{4, 2, 5}, []found{{0, 4, ""}}}, "length 1": {[]byte{4, 2, 5, 1, 4, 2}, []found{{0, 4, ""}}}, "length 0": {[]byte{4, 2, 5, 0, 4, 2}, []found{{0, 4, ""}}}, "too long": {[]byte{4, 2, 5, 5, 4, 2}, []found{{0, 4, ""}}}, "to the end": {[]byte{5, 4, 4, 2}, []found{{0, 5, "\x04\x02"}}},
		"twice": {[]byte{3, 3, 1, 3, 3, 2}, []found{{0, 3, "\x01"}, {3, 3, "\x02"}}}, "unknown": {[]byte{255, 2, 254, 3, 9}, []found{{0, 255, ""}, {2, 254, "\x09"}}}, "longest": {append([]byte{7, 255}, make([]byte, 253)...), []found{{0, 7, string(make([]byte, 253))}}}, "noughts inside": {[]byte{9, 4, 0, 0, 4, 2}, []found{{0, 9, "\x00\x00"}, {4, 4, ""}}},
	} {
		before := bytes.Clone(x.b)
		if got := collect(x.b); !reflect.DeepEqual(got, x.want) {
			t.Errorf("%s: %v, want %v", name, got, x.want)
		}
		if got := collect(x.b); !reflect.DeepEqual(got, x.want) || !bytes.Equal(x.b, before) {
			t.Errorf("%s again: %v", name, got)
		}
	}
}

// P44.1: an iterator can be used repeatedly, and stopped anywhere.
func TestAllAgain(t *testing.T) {
	b := []byte{2, 4, 5, 0xb4, 1, 3, 3, 7, 4, 2}
	seq := option.All(b)
	for stop := range 4 {
		n := 0
		for _, o := range seq {
			if n == stop {
				break
			}
			if o.Kind != []uint8{option.MSS, option.Scale, option.Permit}[n] {
				t.Errorf("option %d is %+v", n, o)
			}
			n++
		}
		if n != min(stop, 3) {
			t.Errorf("%d options", n)
		}
	}
	if !bytes.Equal(b, []byte{2, 4, 5, 0xb4, 1, 3, 3, 7, 4, 2}) {
		t.Error("All changed its argument")
	}
	n := 0
	for at, o := range seq {
		if n == 1 && (at != 5 || o.Kind != 3 || o.Data[0] != 7) {
			t.Errorf("option %+v at %d", o, at)
		}
		n++
	}
	if n != 3 || option.All(nil) == nil {
		t.Errorf("%d options", n)
	}
}

// P44.1: Find returns the first option of a kind.
func TestFind(t *testing.T) {
	b := []byte{1, 3, 3, 7, 2, 4, 5, 0xb4, 3, 3, 8, 0, 4, 2}
	for kind, want := range map[uint8]found{3: {1, 3, "\x07"}, 2: {4, 2, "\x05\xb4"}, 4: {}, 0: {}, 1: {}, 5: {}, 255: {}} {
		o, at, ok := option.Find(b, kind)
		if ok != (want.kind != 0) || o.Kind != want.kind || at != want.at || string(o.Data) != want.data {
			t.Errorf("Find(%d) = %+v %d %v, want %+v", kind, o, at, ok, want)
		}
	}
}

// P44.2, example 1: the encodings, and zero bytes up to a multiple of 4.
func TestWrite(t *testing.T) {
	opt := func(kind uint8, data ...byte) option.Option { return option.Option{Kind: kind, Data: data} }
	long := func(n int) option.Option { return option.Option{Kind: 9, Data: bytes.Repeat([]byte{7}, n)} }
	for name, x := range map[string]struct {
		l    []option.Option
		want []byte
		e    api.Errno
	}{
		"none": {nil, nil, api.OK}, "example 1": {[]option.Option{opt(option.MSS, 5, 0xb4)}, []byte{2, 4, 5, 0xb4}, api.OK}, "one zero": {[]option.Option{opt(3, 7)}, []byte{3, 3, 7, 0}, api.OK}, "two zeros": {[]option.Option{opt(4)}, []byte{4, 2, 0, 0}, api.OK},
		"three zeros": {[]option.Option{opt(4), opt(3, 7)}, []byte{4, 2, 3, 3, 7, 0, 0, 0}, api.OK}, "two": {[]option.Option{opt(255, 1, 2), opt(2, 3, 4)}, []byte{255, 4, 1, 2, 2, 4, 3, 4}, api.OK}, "longest": {[]option.Option{long(38)}, append([]byte{9, 40}, bytes.Repeat([]byte{7}, 38)...), api.OK},
		"data too long": {[]option.Option{long(39)}, nil, api.ErrArg}, "kind End": {[]option.Option{opt(0)}, nil, api.ErrArg}, "kind Nothing": {[]option.Option{opt(1)}, nil, api.ErrArg}, "41 bytes": {[]option.Option{long(37), opt(4)}, nil, api.ErrLong}, "40 bytes": {[]option.Option{long(36), opt(4)}, append(append([]byte{9, 38}, bytes.Repeat([]byte{7}, 36)...), 4, 2), api.OK},
		"too long, then a bad one": {[]option.Option{long(38), opt(4), opt(0)}, nil, api.ErrLong}, "a bad one, then too long": {[]option.Option{long(38), opt(0), opt(4)}, nil, api.ErrArg}, "bad and too long at once": {[]option.Option{long(38), long(39)}, nil, api.ErrArg}, "300 bytes of data": {[]option.Option{long(300)}, nil, api.ErrArg},
		"37 bytes and zeros": {[]option.Option{long(35)}, append(append([]byte{9, 37}, bytes.Repeat([]byte{7}, 35)...), 0, 0, 0), api.OK},
	} {
		got, e := option.Write(x.l...)
		if e != x.e || !bytes.Equal(got, x.want) {
			t.Errorf("%s: %x %d, want %x %d", name, got, e, x.want, x.e)
		}
		for i := range got {
			got[i]++
		}
		if len(x.l) > 0 && len(x.l[0].Data) > 30 && x.l[0].Data[0] != 7 {
			t.Errorf("%s: Write shares its argument", name)
		}
	}
}

// P44.3: Clamp lowers the integer of MSS in a segment with SYN, and updates the checksum as the document words it.
func TestClamp(t *testing.T) {
	for name, x := range map[string]struct {
		flags   uint8
		options []byte
		most    uint16
		want    []byte
		odd     bool
	}{
		"lowered": {tcp.SYN, []byte{2, 4, 5, 0xb4}, 0x0123, []byte{2, 4, 1, 0x23}, false}, "odd": {tcp.SYN | tcp.ACK, []byte{1, 2, 4, 5, 0xb4, 0, 0, 0}, 0x0123, []byte{1, 2, 4, 1, 0x23, 0, 0, 0}, true}, "even": {tcp.SYN, []byte{1, 1, 2, 4, 5, 0xb4, 0, 0}, 0, []byte{1, 1, 2, 4, 0, 0, 0, 0}, false},
		"by one": {tcp.SYN, []byte{2, 4, 5, 0xb4}, 0x05b3, []byte{2, 4, 5, 0xb3}, false}, "equal": {tcp.SYN, []byte{2, 4, 5, 0xb4}, 0x05b4, nil, false}, "less": {tcp.SYN, []byte{2, 4, 5, 0xb4}, 0x05b5, nil, false}, "greatest": {tcp.SYN, []byte{2, 4, 0xff, 0xff}, 0xfffe, []byte{2, 4, 0xff, 0xfe}, false},
		"no SYN": {0xff &^ tcp.SYN, []byte{2, 4, 5, 0xb4}, 1, nil, false}, "no MSS": {tcp.SYN, []byte{3, 3, 7, 0}, 1, nil, false}, "no options": {tcp.SYN, nil, 0, nil, false}, "MSS of 1 byte": {tcp.SYN, []byte{2, 3, 5, 0}, 1, nil, false}, "MSS of 3 bytes": {tcp.SYN, []byte{2, 5, 5, 0xb4, 1, 0, 0, 0}, 1, nil, false},
		"MSS of 0 bytes": {tcp.SYN, []byte{2, 2, 0, 0}, 1, nil, false}, "the first one counts": {tcp.SYN, []byte{2, 3, 5, 1, 2, 4, 9, 9}, 1, nil, false}, "behind an end": {tcp.SYN, []byte{0, 0, 0, 0, 2, 4, 9, 9}, 1, nil, false}, "two of them": {tcp.SYN, []byte{2, 4, 9, 9, 2, 4, 9, 9}, 1, []byte{2, 4, 0, 1, 2, 4, 9, 9}, false},
	} {
		for _, old := range []uint16{0x1234, 0xffff, 0} {
			s := tcp.Segment{SrcPort: 1, DstPort: 2, Seq: 3, Ack: 4, Flags: x.flags, Window: 5, Sum: old, Urgent: 6, Options: x.options, Load: []byte("load")}
			before := s.Bytes()
			want := s
			if x.want != nil {
				want.Options = x.want
				_, at, _ := option.Find(x.options, option.MSS)
				was, now := uint16(x.options[at+2])<<8|uint16(x.options[at+3]), x.most
				if x.odd {
					was, now = was<<8|was>>8, now<<8|now>>8
				}
				want.Sum = sum.Update(old, was, now)
			}
			got := option.Clamp(s, x.most)
			if !bytes.Equal(got.Bytes(), want.Bytes()) || len(got.Bytes()) == 0 {
				t.Errorf("%s: %+v, want %+v", name, got, want)
			}
			for i := range got.Options {
				got.Options[i]++
			}
			got.Load[0]++
			if !bytes.Equal(s.Bytes(), before) {
				t.Errorf("%s: Clamp shares its argument", name)
			}
		}
	}
}

// P44.4: the blocks of a segment's options.
func TestAcked(t *testing.T) {
	one := []byte{5, 10, 0, 0, 0, 1, 0xff, 0, 0, 2}
	for name, x := range map[string]struct {
		b    []byte
		want []option.Block
	}{
		"one": {one, []option.Block{{From: 1, To: 0xff000002}}}, "behind others": {append([]byte{1, 4, 2}, one...), []option.Block{{From: 1, To: 0xff000002}}}, "two": {[]byte{5, 18, 0, 0, 0, 1, 0, 0, 0, 2, 0, 0, 0, 3, 0, 0, 0, 4}, []option.Block{{From: 1, To: 2}, {From: 3, To: 4}}},
		"none": {nil, nil}, "no blocks": {[]byte{5, 2, 4, 2}, nil}, "no option": {[]byte{4, 2, 0, 0}, nil}, "half a block": {[]byte{5, 6, 0, 0, 0, 1}, nil}, "a block and a half": {[]byte{5, 14, 0, 0, 0, 1, 0, 0, 0, 2, 0, 0, 0, 3}, nil}, "a byte more": {append([]byte{5, 11}, make([]byte, 9)...), nil},
		"the first one counts": {append([]byte{5, 3, 0}, one...), nil}, "cut": {one[:9], nil}, "another kind": {append([]byte{8, 10}, make([]byte, 8)...), nil},
	} {
		if got := option.Acked(x.b); !slices.Equal(got, x.want) {
			t.Errorf("%s: %v, want %v", name, got, x.want)
		}
	}
}

// P44.5: All returns what Write encoded, and a segment that is Fine stays so.
func TestInverse(t *testing.T) {
	rnd := rand.New(rand.NewSource(1))
	src, dst := addr.V6(1, 2), addr.V6(3, 4)
	written := 0
	for range 3000 {
		var l []option.Option
		var want []found
		at := 0
		for range rnd.Intn(5) {
			o := option.Option{Kind: uint8(2 + rnd.Intn(7)), Data: make([]byte, rnd.Intn(12))}
			rnd.Read(o.Data)
			if rnd.Intn(3) == 0 {
				o = option.Option{Kind: option.MSS, Data: o.Data[:min(len(o.Data), 2)]}
			}
			l = append(l, o)
			want = append(want, found{at, o.Kind, string(o.Data)})
			at += 2 + len(o.Data)
		}
		b, e := option.Write(l...)
		if e != api.OK {
			continue
		}
		written++
		if got := collect(b); !reflect.DeepEqual(got, want) {
			t.Fatalf("%v, want %v", got, want)
		}
		s := tcp.Segment{Flags: tcp.SYN, Options: b, Load: []byte("load")}.Summed(src, dst)
		s = option.Clamp(s, uint16(rnd.Uint32()))
		if !tcp.Fine(s.Bytes(), src, dst) {
			t.Fatalf("not Fine: %+v", s)
		}
	}
	if written < 1000 {
		t.Errorf("only %d were written", written)
	}
}
