package frag_test

import (
	"bytes"
	"math/rand"
	"testing"

	"counterfoil/addr"
	"counterfoil/api"
	"counterfoil/frag"
	"counterfoil/ip4"
)

var known = ip4.Header{Tos: 1, ID: 7, TTL: 64, Proto: 17, Src: addr.V4(1, 2, 3, 4), Dst: addr.V4(5, 6, 7, 8)}

// rising returns n bytes that differ from their neighbours.
func rising(n int) []byte {
	b := make([]byte, n)
	for i := range b {
		b[i] = byte(i * 7)
	}
	return b
}

func make4(t *testing.T, h ip4.Header, load []byte) []byte {
	t.Helper()
	b, e := ip4.Packet(h, load)
	if e != api.OK {
		t.Fatalf("Packet: %d", e)
	}
	return b
}

// part returns a fragment of the known packet: n bytes of a load from an offset on.
func part(t *testing.T, load []byte, offset, n int, more bool) []byte {
	t.Helper()
	h := known
	h.Offset, h.More = offset, more
	return make4(t, h, load[offset*8:offset*8+n])
}

func same(a, b [][]byte) bool {
	return bytes.Equal(bytes.Join(a, []byte("|")), bytes.Join(b, []byte("|"))) && len(a) == len(b)
}

// P38.1: a packet that is short enough stays whole, without bytes that follow it.
func TestSplitWhole(t *testing.T) {
	for _, stay := range []bool{false, true} {
		h := known
		h.Stay = stay
		b := make4(t, h, rising(20))
		long := append(bytes.Clone(b), 9, 9)
		for _, most := range []int{40, 41, 1500, 1<<63 - 1} {
			l, e := frag.Split(long, most)
			if e != api.OK || !same(l, [][]byte{b}) {
				t.Errorf("most %d: %x %d", most, l, e)
			}
			l[0][0] = 0
		}
		if long[0] != 0x45 {
			t.Error("Split shares its argument")
		}
	}
}

// P38.1, example 1: the pieces, all but the last of the greatest multiple of 8 bytes.
func TestSplit(t *testing.T) {
	load := rising(20)
	b := make4(t, known, load)
	three := [][]byte{part(t, load, 0, 8, true), part(t, load, 1, 8, true), part(t, load, 2, 4, false)}
	two := [][]byte{part(t, load, 0, 16, true), part(t, load, 2, 4, false)}
	for most, want := range map[int][][]byte{28: three, 29: three, 35: three, 36: two, 39: two, 40: {b}} {
		if l, e := frag.Split(append(bytes.Clone(b), 1, 2), most); e != api.OK || !same(l, want) {
			t.Errorf("most %d: %x %d, want %x", most, l, e, want)
		}
	}
	exact := rising(24)
	want := [][]byte{part(t, exact, 0, 8, true), part(t, exact, 1, 8, true), part(t, exact, 2, 8, false)}
	if l, e := frag.Split(make4(t, known, exact), 28); e != api.OK || !same(l, want) {
		t.Errorf("pieces of equal length: %x %d", l, e)
	}
}

// P38.1: options stay in all fragments, and a fragment is split into fragments.
func TestSplitAgain(t *testing.T) {
	h := known
	h.Options = []byte{1, 1, 1, 1}
	h.Offset = 100
	load := rising(33)
	for _, more := range []bool{false, true} {
		h.More = more
		l, e := frag.Split(make4(t, h, load), 24+16+7)
		if e != api.OK || len(l) != 3 {
			t.Fatalf("%d fragments, %d", len(l), e)
		}
		for i, b := range l {
			x := h
			x.Offset, x.More = 100+2*i, more || i < 2
			if want := make4(t, x, load[16*i:min(16*i+16, 33)]); !bytes.Equal(b, want) {
				t.Errorf("fragment %d: %x, want %x", i, b, want)
			}
		}
	}
}

// P38.1: the errors of Split, in their order.
func TestSplitErrors(t *testing.T) {
	b := make4(t, known, rising(20))
	stays := known
	stays.Stay = true
	options := known
	options.Options = make([]byte, 40)
	far := known
	far.Offset = 8190
	wrong := bytes.Clone(b)
	wrong[8]++
	for name, x := range map[string]struct {
		b    []byte
		most int
		want api.Errno
	}{
		"nothing": {nil, 10, api.ErrShort}, "short": {b[:39], 100, api.ErrShort}, "malformed": {[]byte("junk junk junk junk junk"), 100, api.ErrForm}, "wrong sum": {wrong, 1, api.ErrSum}, "stays": {make4(t, stays, rising(20)), 39, api.ErrLong},
		"stays, no space": {make4(t, stays, rising(20)), 5, api.ErrLong}, "most 27": {b, 27, api.ErrArg}, "most 0": {b, 0, api.ErrArg}, "most -1": {b, -1, api.ErrArg}, "least most": {b, -1 << 63, api.ErrArg}, "most 67 of 60": {make4(t, options, rising(20)), 67, api.ErrArg},
		"too far": {make4(t, far, rising(24)), 28, api.ErrArg}, "no load": {make4(t, known, nil), 19, api.ErrArg},
	} {
		if l, e := frag.Split(x.b, x.most); e != x.want || len(l) != 0 {
			t.Errorf("%s: %x %d, want %d", name, l, e, x.want)
		}
	}
	if l, e := frag.Split(make4(t, options, rising(20)), 68); e != api.OK || len(l) != 3 {
		t.Errorf("most 68 of 60: %d", e)
	}
	if l, e := frag.Split(make4(t, far, rising(16)), 28); e != api.OK || len(l) != 2 {
		t.Errorf("up to offset 8191: %d", e)
	}
}

// P38.2: fragments are joined, whatever their order.
func TestJoin(t *testing.T) {
	load := rising(60)
	whole := make4(t, known, load)
	a, b, c, d := part(t, load, 0, 16, true), part(t, load, 2, 8, true), part(t, load, 3, 32, true), part(t, load, 7, 4, false)
	empty := part(t, load, 2, 0, true)
	for name, l := range map[string][][]byte{
		"in order": {a, b, c, d}, "turned": {d, c, b, a}, "mixed": {c, a, d, b}, "bytes behind": {append(bytes.Clone(a), 9, 9), b, c, d}, "an empty one first": {a, empty, b, c, d}, "whole": {whole},
	} {
		before := bytes.Join(l, nil)
		if got, e := frag.Join(l...); e != api.OK || !bytes.Equal(got, whole) {
			t.Errorf("%s: %x %d", name, got, e)
		}
		if !bytes.Equal(bytes.Join(l, nil), before) {
			t.Errorf("%s: the fragments changed", name)
		}
	}
	h := known
	h.Tos, h.TTL, h.Stay, h.Options, h.More = 9, 3, true, []byte{1, 1, 1, 0}, true
	got, e := frag.Join(d, c, b, make4(t, h, load[:16]))
	h.More = false
	if want := make4(t, h, load); e != api.OK || !bytes.Equal(got, want) {
		t.Errorf("the header of the first one: %x %d, want %x", got, e, want)
	}
}

// P38.2: the errors of Join, in their order.
func TestJoinErrors(t *testing.T) {
	load := rising(60)
	a, b, c, d := part(t, load, 0, 16, true), part(t, load, 2, 8, true), part(t, load, 3, 32, true), part(t, load, 7, 4, false)
	other := func(change func(h *ip4.Header)) []byte {
		h := known
		h.Offset, h.More = 2, true
		change(&h)
		return make4(t, h, load[16:24])
	}
	wrong, short := bytes.Clone(b), c[:len(c)-1]
	wrong[8]++
	for name, x := range map[string]struct {
		l    [][]byte
		want api.Errno
	}{
		"none": {nil, api.ErrNone}, "wrong sum": {[][]byte{a, wrong, c, d}, api.ErrSum}, "short ahead of wrong sum": {[][]byte{short, wrong}, api.ErrShort}, "wrong sum ahead of short": {[][]byte{wrong, short}, api.ErrSum}, "nothing": {[][]byte{a, nil}, api.ErrShort},
		"another ID": {[][]byte{a, other(func(h *ip4.Header) { h.ID++ }), c, d}, api.ErrForm}, "another protocol": {[][]byte{a, other(func(h *ip4.Header) { h.Proto++ }), c, d}, api.ErrForm},
		"another sender": {[][]byte{a, other(func(h *ip4.Header) { h.Src.Low++ }), c, d}, api.ErrForm}, "another receiver": {[][]byte{a, other(func(h *ip4.Header) { h.Dst.Low++ }), c, d}, api.ErrForm},
		"another TTL": {[][]byte{a, other(func(h *ip4.Header) { h.TTL++; h.Tos++ }), c, d}, api.OK}, "one twice": {[][]byte{a, b, b, c, d}, api.ErrForm}, "over one another": {[][]byte{a, part(t, load, 1, 16, true), c, d}, api.ErrForm},
		"no more ahead": {[][]byte{a, other(func(h *ip4.Header) { h.More = false }), c, d}, api.ErrForm}, "one missing": {[][]byte{a, c, d}, api.ErrShort}, "the first one missing": {[][]byte{b, c, d}, api.ErrShort}, "the last one missing": {[][]byte{a, b, c}, api.ErrShort},
		"a foreign one, too far": {[][]byte{a, c, other(func(h *ip4.Header) { h.ID++; h.Offset = 5 })}, api.ErrShort}, "a foreign one behind a gap": {[][]byte{a, other(func(h *ip4.Header) { h.ID++; h.Offset = 5 }), d}, api.ErrForm},
		"no more, and a gap": {[][]byte{a, other(func(h *ip4.Header) { h.More = false }), d}, api.ErrForm}, "a gap, and then a foreign one": {[][]byte{a, c, other(func(h *ip4.Header) { h.ID++; h.Offset = 90 })}, api.ErrShort},
		"only the last one": {[][]byte{d}, api.ErrShort}, "only the first one": {[][]byte{a}, api.ErrShort}, "an empty last one first": {[][]byte{part(t, load, 0, 0, false), a}, api.ErrForm},
	} {
		got, e := frag.Join(x.l...)
		if e != x.want || (len(got) > 0) != (e == api.OK) {
			t.Errorf("%s: %x %d, want %d", name, got, e, x.want)
		}
	}
	big := rising(65535)
	first, last := part(t, big, 0, 65512, true), part(t, big, 8189, 8, false)
	if got, e := frag.Join(last, first); e != api.ErrLong || len(got) != 0 {
		t.Errorf("too long: %d bytes %d", len(got), e)
	}
	last = part(t, big, 8189, 3, false)
	if got, e := frag.Join(last, first); e != api.OK || len(got) != 65535 {
		t.Errorf("the longest: %d bytes %d", len(got), e)
	}
}

// P38.2: fragments with the same Offset are considered in the given order.
func TestJoinSameOffset(t *testing.T) {
	load := rising(16)
	h := known
	h.More = true
	empty, first, last := make4(t, h, nil), part(t, load, 0, 8, true), part(t, load, 1, 8, false)
	h.TTL = 5
	other := make4(t, h, nil)
	h.More = false
	for _, l := range [][][]byte{{other, empty, first, last}, {last, other, first}} {
		if got, e := frag.Join(l...); e != api.OK || !bytes.Equal(got, make4(t, h, load)) {
			t.Errorf("%x %d", got, e)
		}
	}
	if _, e := frag.Join(first, empty, last); e != api.ErrForm {
		t.Errorf("an empty one behind: %d", e)
	}
	if got, e := frag.Join(empty, other, first, last); e != api.OK || got[8] != 64 {
		t.Errorf("%x %d", got, e)
	}
}

// P38.3: joining the fragments of a packet, in any order, returns the packet.
func TestInverse(t *testing.T) {
	rnd := rand.New(rand.NewSource(1))
	for range 500 {
		h := known
		h.ID, h.Options = uint16(rnd.Uint32()), make([]byte, 4*rnd.Intn(11))
		b := make4(t, h, rising(rnd.Intn(300)))
		l, e := frag.Split(b, h.Size()+8+rnd.Intn(100))
		if e != api.OK {
			t.Fatalf("Split: %d", e)
		}
		var all [][]byte
		for _, p := range l {
			again := [][]byte{p}
			if rnd.Intn(3) == 0 {
				again, _ = frag.Split(p, h.Size()+8+rnd.Intn(20))
			}
			all = append(all, again...)
		}
		rnd.Shuffle(len(all), func(i, j int) { all[i], all[j] = all[j], all[i] })
		if got, e := frag.Join(all...); e != api.OK || !bytes.Equal(got, b) {
			t.Fatalf("Join of %d fragments: %d", len(all), e)
		}
	}
}
