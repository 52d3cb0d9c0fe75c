package ip4_test

import (
	"bytes"
	"math/rand"
	"reflect"
	"testing"

	"counterfoil/addr"
	"counterfoil/api"
	"counterfoil/ip4"
	"counterfoil/sum"
)

// known is a valid header, and knownBytes its encoding with four bytes of options.
var known = ip4.Header{
	Tos: 0x12, Length: 30, ID: 0xabcd, Stay: true, Offset: 0, TTL: 64, Proto: 17,
	Src: addr.V4(192, 168, 0, 1), Dst: addr.V4(192, 168, 0, 199), Options: []byte{1, 2, 3, 4},
}

var knownBytes = []byte{
	0x46, 0x12, 0, 30, 0xab, 0xcd, 0x40, 0, 64, 17, 0x07, 0xd1, 192, 168, 0, 1, 192, 168, 0, 199, 1, 2, 3, 4,
}

// fixed returns b with a correct header checksum for a header of size bytes.
func fixed(b []byte, size int) []byte {
	out := bytes.Clone(b)
	out[10], out[11] = 0, 0
	s := sum.Of(out[:size])
	out[10], out[11] = byte(s>>8), byte(s)
	return out
}

func with(b []byte, at int, c byte) []byte {
	out := bytes.Clone(b)
	out[at] = c
	return out
}

func same(a, b ip4.Header) bool {
	if len(a.Options) == 0 && len(b.Options) == 0 {
		a.Options, b.Options = nil, nil
	}
	return reflect.DeepEqual(a, b)
}

// P4.1: Size and Fragment.
func TestSizeFragment(t *testing.T) {
	if (ip4.Header{}).Size() != 20 || known.Size() != 24 || ip4.Least != 20 {
		t.Error("Size")
	}
	for _, x := range []struct {
		h    ip4.Header
		want bool
	}{
		{ip4.Header{}, false}, {ip4.Header{More: true}, true}, {ip4.Header{Offset: 1}, true},
		{ip4.Header{More: true, Offset: 8191}, true}, {ip4.Header{Stay: true}, false},
	} {
		if x.h.Fragment() != x.want {
			t.Errorf("Fragment of %+v", x.h)
		}
	}
}

// P4.1: the bounds of a valid header, and that Bytes of any other one is nothing.
func TestRight(t *testing.T) {
	for name, x := range map[string]struct {
		change func(h *ip4.Header)
		want   bool
	}{
		"as it is":          {func(h *ip4.Header) {}, true},
		"no options":        {func(h *ip4.Header) { h.Options, h.Length = nil, 20 }, true},
		"40 options":        {func(h *ip4.Header) { h.Options, h.Length = make([]byte, 40), 60 }, true},
		"44 options":        {func(h *ip4.Header) { h.Options, h.Length = make([]byte, 44), 100 }, false},
		"41 options":        {func(h *ip4.Header) { h.Options, h.Length = make([]byte, 41), 100 }, false},
		"3 options":         {func(h *ip4.Header) { h.Options = make([]byte, 3) }, false},
		"2 options":         {func(h *ip4.Header) { h.Options = make([]byte, 2) }, false},
		"Length is Size":    {func(h *ip4.Header) { h.Length = 24 }, true},
		"Length below Size": {func(h *ip4.Header) { h.Length = 23 }, false},
		"Length below 0":    {func(h *ip4.Header) { h.Length = -1 }, false},
		"Length 65535":      {func(h *ip4.Header) { h.Length = 65535 }, true},
		"Length 65536":      {func(h *ip4.Header) { h.Length = 65536 }, false},
		"Offset 8191":       {func(h *ip4.Header) { h.Offset = 8191 }, true},
		"Offset 8192":       {func(h *ip4.Header) { h.Offset = 8192 }, false},
		"Offset -1":         {func(h *ip4.Header) { h.Offset = -1 }, false},
		"Src of IPv6":       {func(h *ip4.Header) { h.Src = addr.V6(0, 1) }, false},
		"Dst of IPv6":       {func(h *ip4.Header) { h.Dst = addr.V6(0, 1) }, false},
		"Src too great":     {func(h *ip4.Header) { h.Src = api.Addr{Low: 1 << 32} }, false},
		"Dst too great":     {func(h *ip4.Header) { h.Dst = api.Addr{High: 1} }, false},
	} {
		h := known
		x.change(&h)
		if h.Right() != x.want {
			t.Errorf("%s: Right is %v", name, h.Right())
		}
		b := h.Bytes()
		if !x.want && len(b) != 0 || x.want && len(b) != h.Size() {
			t.Errorf("%s: Bytes %x", name, b)
		}
	}
}

// P4.1: the encoding, whose checksum is correct whatever Sum says.
func TestBytes(t *testing.T) {
	for _, s := range []uint16{0, 1, 0xffff} {
		h := known
		h.Sum = s
		if got := h.Bytes(); !bytes.Equal(got, knownBytes) {
			t.Errorf("Bytes %x, want %x", got, knownBytes)
		}
	}
	h := known
	h.Stay, h.More, h.Offset, h.Options = false, true, 0x1234, nil
	want := fixed([]byte{0x45, 0x12, 0, 30, 0xab, 0xcd, 0x32, 0x34, 64, 17, 0, 0, 192, 168, 0, 1, 192, 168, 0, 199}, 20)
	if got := h.Bytes(); !bytes.Equal(got, want) {
		t.Errorf("Bytes %x, want %x", got, want)
	}
	if !sum.Right(want) {
		t.Error("checksum")
	}
	h.Bytes()[0] = 0
	known.Bytes()[20] = 9
	if known.Options[0] != 1 {
		t.Error("Bytes shares Options")
	}
}

// P4.2: Parse returns header and load, and ignores bytes beyond Length.
func TestParse(t *testing.T) {
	b := append(bytes.Clone(knownBytes), 50, 51, 52, 53, 54, 55, 99, 98)
	before := bytes.Clone(b)
	want := known
	want.Sum = 0x07d1
	h, load, e := ip4.Parse(b)
	if e != api.OK || !same(h, want) || !bytes.Equal(load, []byte{50, 51, 52, 53, 54, 55}) {
		t.Errorf("Parse: %+v %v %d", h, load, e)
	}
	load[0], h.Options[0] = 0, 0
	_ = append(load, 1)
	_ = append(h.Options, 1)
	if !bytes.Equal(b, before) {
		t.Error("Parse shares its argument")
	}
	more := fixed([]byte{0x45, 0, 0, 20, 0, 0, 0x3f, 0xff, 1, 2, 0, 0, 1, 2, 3, 4, 5, 6, 7, 8}, 20)
	h, load, e = ip4.Parse(more)
	if e != api.OK || h.Stay || !h.More || h.Offset != 8191 || h.TTL != 1 || h.Proto != 2 || len(load) != 0 || len(h.Options) != 0 {
		t.Errorf("Parse: %+v %v %d", h, load, e)
	}
	if h.Src != addr.V4(1, 2, 3, 4) || h.Dst != addr.V4(5, 6, 7, 8) {
		t.Errorf("Parse: %+v", h)
	}
}

// P4.2: the errors, each ahead of those that the document names later.
func TestParseErrors(t *testing.T) {
	b := append(bytes.Clone(knownBytes), 50, 51, 52, 53, 54, 55)
	plain := fixed([]byte{0x45, 0, 0, 20, 0, 0, 0, 0, 64, 6, 0, 0, 1, 2, 3, 4, 5, 6, 7, 8}, 20)
	for name, x := range map[string]struct {
		b    []byte
		want api.Errno
	}{
		"nothing":                    {nil, api.ErrShort},
		"19 bytes":                   {b[:19], api.ErrShort},
		"19 bytes, not 4":            {with(b, 0, 0x66)[:19], api.ErrShort},
		"20 bytes of 24":             {b[:20], api.ErrShort},
		"23 bytes of 24":             {b[:23], api.ErrShort},
		"one byte less":              {b[:29], api.ErrShort},
		"version 6":                  {fixed(with(b, 0, 0x66), 24), api.ErrForm},
		"version 5":                  {fixed(with(plain, 0, 0x55), 20), api.ErrForm},
		"version 0":                  {fixed(with(plain, 0, 0x05), 20), api.ErrForm},
		"version 12":                 {fixed(with(plain, 0, 0xc5), 20), api.ErrForm},
		"header of 16 bytes":         {fixed(with(plain, 0, 0x44), 16), api.ErrForm},
		"header of 0 bytes":          {with(plain, 0, 0x40), api.ErrForm},
		"reserved bit":               {fixed(with(plain, 6, 0x80), 20), api.ErrForm},
		"reserved bit and others":    {fixed(with(plain, 6, 0xff), 20), api.ErrForm},
		"Length below header length": {fixed(with(plain, 3, 19), 20), api.ErrForm},
		"Length 0":                   {fixed(with(plain, 3, 0), 20), api.ErrForm},
		"Length 23 of 24":            {fixed(with(b, 3, 23), 24), api.ErrForm},
		"form ahead of short":        {with(b, 6, 0x80)[:20], api.ErrForm},
		"short ahead of sum":         {with(b, 11, 0)[:29], api.ErrShort},
		"Length too long":            {fixed(with(plain, 3, 21), 20), api.ErrShort},
		"Length 65535":               {fixed(with(with(plain, 2, 0xff), 3, 0xff), 20), api.ErrShort},
		"wrong sum":                  {with(b, 11, 0xd2), api.ErrSum},
		"wrong sum by options":       {with(b, 23, 5), api.ErrSum},
		"wrong sum by TTL":           {with(b, 8, 63), api.ErrSum},
	} {
		h, load, e := ip4.Parse(x.b)
		if e != x.want || !same(h, ip4.Header{}) || len(load) != 0 {
			t.Errorf("%s: %+v %v %d, want %d", name, h, load, e, x.want)
		}
		if got, e := ip4.Older(x.b); e != x.want || len(got) != 0 {
			t.Errorf("%s: Older %x %d, want %d", name, got, e, x.want)
		}
	}
	if _, load, e := ip4.Parse(with(b, 29, 0)); e != api.OK || load[5] != 0 {
		t.Errorf("a change behind the header: %d", e)
	}
}

// P4.3: Packet sets Length, and ignores what Length and Sum are.
func TestPacket(t *testing.T) {
	h := known
	h.Length, h.Sum = 12345678, 77
	load := []byte{50, 51, 52, 53, 54, 55}
	got, e := ip4.Packet(h, load)
	if e != api.OK || !bytes.Equal(got, append(bytes.Clone(knownBytes), load...)) {
		t.Errorf("Packet %x %d", got, e)
	}
	got[24], got[20] = 0, 0
	if load[0] != 50 || known.Options[0] != 1 {
		t.Error("Packet shares its arguments")
	}
	if got, e := ip4.Packet(h, nil); e != api.OK || len(got) != 24 || got[3] != 24 {
		t.Errorf("Packet without load: %x %d", got, e)
	}
	if got, e := ip4.Packet(h, make([]byte, 65511)); e != api.OK || len(got) != 65535 || got[2] != 0xff || got[3] != 0xff {
		t.Errorf("greatest packet: %d bytes %d", len(got), e)
	}
}

// P4.3: ErrLong for more than 65535 bytes, then ErrArg for a header that is not valid.
func TestPacketErrors(t *testing.T) {
	bad := known
	bad.Offset = 8192
	odd := known
	odd.Options = make([]byte, 5)
	many := known
	many.Options = make([]byte, 65536)
	mixed := known
	mixed.Dst = addr.V6(0, 1)
	for name, x := range map[string]struct {
		h    ip4.Header
		load int
		want api.Errno
	}{
		"one byte too long": {known, 65512, api.ErrLong}, "long and not valid": {bad, 65512, api.ErrLong}, "not valid": {bad, 1, api.ErrArg},
		"odd options": {odd, 1, api.ErrArg}, "options too long": {many, 0, api.ErrLong}, "two families": {mixed, 65511, api.ErrArg},
	} {
		if got, e := ip4.Packet(x.h, make([]byte, x.load)); e != x.want || len(got) != 0 {
			t.Errorf("%s: %d bytes %d", name, len(got), e)
		}
	}
}

// P4.3: Older decrements TTL and updates Sum, and leaves the bytes beyond Length.
func TestOlder(t *testing.T) {
	b := append(bytes.Clone(knownBytes), 50, 51, 52, 53, 54, 55, 99, 98)
	before := bytes.Clone(b)
	got, e := ip4.Older(b)
	want := bytes.Clone(b)
	s := sum.Update(0x07d1, 64<<8|17, 63<<8|17)
	want[8], want[10], want[11] = 63, byte(s>>8), byte(s)
	if e != api.OK || !bytes.Equal(got, want) || !bytes.Equal(b, before) {
		t.Errorf("Older %x %d, want %x", got, e, want)
	}
	for ttl := range 256 {
		p := fixed(with(b, 8, byte(ttl)), 24)
		got, e := ip4.Older(p)
		if ttl < 2 {
			if e != api.ErrNone || len(got) != 0 {
				t.Errorf("TTL %d: %x %d", ttl, got, e)
			}
			continue
		}
		if e != api.OK || got[8] != byte(ttl-1) || len(got) != len(b) {
			t.Errorf("TTL %d: %x %d", ttl, got, e)
		}
	}
	if got, e := ip4.Older(with(b, 8, 0)); e != api.ErrSum || len(got) != 0 {
		t.Errorf("wrong sum and no TTL: %d", e)
	}
}

func someHeader(rnd *rand.Rand) ip4.Header {
	h := ip4.Header{
		Tos: uint8(rnd.Intn(256)), ID: uint16(rnd.Uint32()), Stay: rnd.Intn(2) == 0, More: rnd.Intn(2) == 0, Offset: rnd.Intn(8192),
		TTL: uint8(rnd.Intn(256)), Proto: uint8(rnd.Intn(256)), Src: api.Addr{Low: uint64(rnd.Uint32())}, Dst: api.Addr{Low: uint64(rnd.Uint32())},
	}
	h.Options = make([]byte, 4*rnd.Intn(11))
	rnd.Read(h.Options)
	return h
}

// P4.4: Parse inverts Packet, and accepts what Older makes of a packet that it accepts.
func TestInverse(t *testing.T) {
	rnd := rand.New(rand.NewSource(1))
	for range 2000 {
		h := someHeader(rnd)
		load := make([]byte, rnd.Intn(50))
		rnd.Read(load)
		b, e := ip4.Packet(h, load)
		if e != api.OK {
			t.Fatalf("Packet of %+v: %d", h, e)
		}
		got, rest, e := ip4.Parse(b)
		h.Length, h.Sum = len(b), uint16(b[10])<<8|uint16(b[11])
		if e != api.OK || !same(got, h) || !bytes.Equal(rest, load) {
			t.Fatalf("Parse: %+v %d, want %+v", got, e, h)
		}
		for h.TTL > 1 {
			b, e = ip4.Older(b)
			if e != api.OK {
				t.Fatalf("Older: %d", e)
			}
			h.TTL--
			h.Sum = uint16(b[10])<<8 | uint16(b[11])
			if got, rest, e = ip4.Parse(b); e != api.OK || !same(got, h) || !bytes.Equal(rest, load) {
				t.Fatalf("Parse of an older packet: %+v %d, want %+v", got, e, h)
			}
		}
	}
}
