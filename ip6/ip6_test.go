package ip6_test

import (
	"bytes"
	"math/rand"
	"testing"

	"counterfoil/addr"
	"counterfoil/api"
	"counterfoil/ip6"
)

var known = ip6.Header{
	Class: 0xab, Label: 0xcdef1, Length: 3, Next: 17, Hops: 64,
	Src: addr.V6(0x0102030405060708, 0x090a0b0c0d0e0f10), Dst: addr.V6(0x1112131415161718, 0x191a1b1c1d1e1f20),
}

var knownBytes = []byte{
	0x6a, 0xbc, 0xde, 0xf1, 0, 3, 17, 64, 1, 2, 3, 4, 5, 6, 7, 8, 9, 10, 11, 12, 13, 14, 15, 16,
	17, 18, 19, 20, 21, 22, 23, 24, 25, 26, 27, 28, 29, 30, 31, 32,
}

func with(b []byte, at int, c byte) []byte {
	out := bytes.Clone(b)
	out[at] = c
	return out
}

// P5.1: the bounds of a valid header, and that Bytes of any other one is nothing.
func TestRight(t *testing.T) {
	if ip6.Size != 40 || ip6.MostLabel != 0xfffff {
		t.Error("constants")
	}
	for name, x := range map[string]struct {
		change func(h *ip6.Header)
		want   bool
	}{
		"as it is":        {func(h *ip6.Header) {}, true},
		"greatest label":  {func(h *ip6.Header) { h.Label = ip6.MostLabel }, true},
		"label too great": {func(h *ip6.Header) { h.Label = ip6.MostLabel + 1 }, false},
		"Length 0":        {func(h *ip6.Header) { h.Length = 0 }, true},
		"Length 65535":    {func(h *ip6.Header) { h.Length = 65535 }, true},
		"Length 65536":    {func(h *ip6.Header) { h.Length = 65536 }, false},
		"Length -1":       {func(h *ip6.Header) { h.Length = -1 }, false},
		"Src of IPv4":     {func(h *ip6.Header) { h.Src = addr.V4(1, 2, 3, 4) }, false},
		"Dst of IPv4":     {func(h *ip6.Header) { h.Dst = addr.V4(1, 2, 3, 4) }, false},
		"zero addresses":  {func(h *ip6.Header) { h.Src, h.Dst = addr.V6(0, 0), addr.V6(0, 0) }, true},
	} {
		h := known
		x.change(&h)
		if h.Right() != x.want {
			t.Errorf("%s: Right is %v", name, h.Right())
		}
		if b := h.Bytes(); !x.want && len(b) != 0 || x.want && len(b) != 40 {
			t.Errorf("%s: Bytes %x", name, b)
		}
	}
	if (ip6.Header{}).Right() {
		t.Error("the zero header is valid")
	}
}

// P5.1: the encoding.
func TestBytes(t *testing.T) {
	if got := known.Bytes(); !bytes.Equal(got, knownBytes) {
		t.Errorf("Bytes %x, want %x", got, knownBytes)
	}
	h := ip6.Header{Length: 0x1234, Src: addr.V6(0, 0), Dst: addr.V6(0, 0)}
	if got := h.Bytes(); !bytes.Equal(got[:8], []byte{0x60, 0, 0, 0, 0x12, 0x34, 0, 0}) {
		t.Errorf("Bytes %x", got)
	}
}

// P5.2: Parse returns header and load, and ignores bytes beyond Length.
func TestParse(t *testing.T) {
	b := append(bytes.Clone(knownBytes), 50, 51, 52, 99, 98)
	before := bytes.Clone(b)
	h, load, e := ip6.Parse(b)
	if e != api.OK || h != known || !bytes.Equal(load, []byte{50, 51, 52}) {
		t.Errorf("Parse: %+v %v %d", h, load, e)
	}
	load[0] = 0
	_ = append(load, 1)
	if !bytes.Equal(b, before) {
		t.Error("Parse shares its argument")
	}
	if h, load, e := ip6.Parse(with(knownBytes, 5, 0)); e != api.OK || h.Length != 0 || len(load) != 0 {
		t.Errorf("Parse of no load: %+v %v %d", h, load, e)
	}
}

// P5.2: the errors, in their order.
func TestParseErrors(t *testing.T) {
	b := append(bytes.Clone(knownBytes), 50, 51, 52)
	for name, x := range map[string]struct {
		b    []byte
		want api.Errno
	}{
		"nothing": {nil, api.ErrShort}, "39 bytes": {b[:39], api.ErrShort}, "39 bytes, not 6": {with(b, 0, 0x40)[:39], api.ErrShort},
		"version 4": {with(b, 0, 0x4a), api.ErrForm}, "version 7": {with(b, 0, 0x7a), api.ErrForm}, "version 14": {with(b, 0, 0xea), api.ErrForm},
		"version 0": {with(b, 0, 0x0a), api.ErrForm}, "not 6 and short": {with(b, 0, 0x4a)[:42], api.ErrForm},
		"one byte less": {b[:42], api.ErrShort}, "header alone": {b[:40], api.ErrShort}, "Length 65535": {with(with(b, 4, 255), 5, 255), api.ErrShort},
	} {
		h, load, e := ip6.Parse(x.b)
		if e != x.want || h != (ip6.Header{}) || len(load) != 0 {
			t.Errorf("%s: %+v %v %d, want %d", name, h, load, e, x.want)
		}
		if got, e := ip6.Older(x.b); e != x.want || len(got) != 0 {
			t.Errorf("%s: Older %x %d, want %d", name, got, e, x.want)
		}
	}
}

// P5.3: Packet sets Length; ErrLong for more than 65535 bytes of load, then ErrArg.
func TestPacket(t *testing.T) {
	h := known
	h.Length = -5
	load := []byte{50, 51, 52}
	got, e := ip6.Packet(h, load)
	if e != api.OK || !bytes.Equal(got, append(bytes.Clone(knownBytes), 50, 51, 52)) {
		t.Errorf("Packet %x %d", got, e)
	}
	got[40] = 0
	if load[0] != 50 {
		t.Error("Packet shares its argument")
	}
	if got, e := ip6.Packet(h, nil); e != api.OK || len(got) != 40 || got[5] != 0 {
		t.Errorf("Packet without load: %x %d", got, e)
	}
	if got, e := ip6.Packet(h, make([]byte, 65535)); e != api.OK || len(got) != 65575 || got[4] != 255 || got[5] != 255 {
		t.Errorf("greatest packet: %d bytes %d", len(got), e)
	}
	if got, e := ip6.Packet(h, make([]byte, 65536)); e != api.ErrLong || len(got) != 0 {
		t.Errorf("too long: %d bytes %d", len(got), e)
	}
	h.Label = ip6.MostLabel + 1
	if got, e := ip6.Packet(h, make([]byte, 65536)); e != api.ErrLong || len(got) != 0 {
		t.Errorf("too long and not valid: %d bytes %d", len(got), e)
	}
	if got, e := ip6.Packet(h, load); e != api.ErrArg || len(got) != 0 {
		t.Errorf("not valid: %d bytes %d", len(got), e)
	}
}

// P5.3: Older decrements Hops and leaves all else, the bytes beyond Length among it.
func TestOlder(t *testing.T) {
	b := append(bytes.Clone(knownBytes), 50, 51, 52, 99, 98)
	for hops := range 256 {
		p := with(b, 7, byte(hops))
		got, e := ip6.Older(p)
		if hops < 2 {
			if e != api.ErrNone || len(got) != 0 {
				t.Errorf("Hops %d: %x %d", hops, got, e)
			}
		} else if e != api.OK || !bytes.Equal(got, with(b, 7, byte(hops-1))) || p[7] != byte(hops) {
			t.Errorf("Hops %d: %x %d", hops, got, e)
		}
	}
}

// P5.4: the seven extension headers.
func TestExtended(t *testing.T) {
	want := map[int]int{0: 1, 43: 1, 44: 1, 60: 1, 135: 1, 139: 1, 140: 1}
	for n := range 256 {
		if ip6.Extended(uint8(n)) != (want[n] == 1) {
			t.Errorf("Extended(%d)", n)
		}
	}
}

// P5.4: the pseudo-headers of both families.
func TestPseudo(t *testing.T) {
	want := append(bytes.Clone(knownBytes[8:]), 0, 0, 0xff, 0xfe, 0, 0, 0, 58)
	if got := ip6.Pseudo(known.Src, known.Dst, 58, 0xfffe); !bytes.Equal(got, want) {
		t.Errorf("Pseudo %x, want %x", got, want)
	}
	want = []byte{1, 2, 3, 4, 5, 6, 7, 8, 0, 200, 0x12, 0x34}
	if got := ip6.Pseudo(addr.V4(1, 2, 3, 4), addr.V4(5, 6, 7, 8), 200, 0x1234); !bytes.Equal(got, want) {
		t.Errorf("Pseudo %x, want %x", got, want)
	}
}

// P5.5: Parse inverts Packet.
func TestInverse(t *testing.T) {
	rnd := rand.New(rand.NewSource(1))
	for range 2000 {
		load := make([]byte, rnd.Intn(50))
		rnd.Read(load)
		h := ip6.Header{
			Class: uint8(rnd.Uint32()), Label: rnd.Uint32() % (ip6.MostLabel + 1), Length: len(load), Next: uint8(rnd.Uint32()), Hops: uint8(rnd.Uint32()),
			Src: addr.V6(rnd.Uint64(), rnd.Uint64()), Dst: addr.V6(rnd.Uint64(), rnd.Uint64()),
		}
		b, e := ip6.Packet(h, load)
		if e != api.OK {
			t.Fatalf("Packet of %+v: %d", h, e)
		}
		if got, rest, e := ip6.Parse(b); e != api.OK || got != h || !bytes.Equal(rest, load) {
			t.Fatalf("Parse: %+v %d, want %+v", got, e, h)
		}
	}
}
