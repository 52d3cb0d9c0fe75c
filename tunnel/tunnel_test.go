package tunnel_test

import (
	"bytes"
	"math/rand"
	"testing"

	"counterfoil/addr"
	"counterfoil/api"
	"counterfoil/ip4"
	"counterfoil/ip6"
	"counterfoil/tunnel"
)

var (
	way4 = tunnel.Way{Src: addr.V4(10, 0, 1, 1), Dst: addr.V4(10, 0, 2, 1), TTL: 64}
	way6 = tunnel.Way{Src: addr.V6(0, 1), Dst: addr.V6(0, 2), TTL: 33}
)

func packet4(stay bool, load int) []byte {
	b, _ := ip4.Packet(ip4.Header{ID: 5, Stay: stay, TTL: 9, Proto: 6, Src: addr.V4(1, 2, 3, 4), Dst: addr.V4(5, 6, 7, 8)}, bytes.Repeat([]byte{7}, load))
	return b
}

func packet6(load int) []byte {
	b, _ := ip6.Packet(ip6.Header{Class: 3, Label: 5, Next: 6, Hops: 9, Src: addr.V6(1, 1), Dst: addr.V6(2, 2)}, bytes.Repeat([]byte{7}, load))
	return b
}

// P9.1: the first four bits say of which version a packet is.
func TestSix(t *testing.T) {
	for c := range 256 {
		want, wantErr := false, api.ErrForm
		if c>>4 == 4 {
			wantErr = api.OK
		} else if c>>4 == 6 {
			want, wantErr = true, api.OK
		}
		if got, e := tunnel.Six([]byte{byte(c)}); got != want || e != wantErr {
			t.Errorf("Six of %x: %v %d", c, got, e)
		}
	}
	if got, e := tunnel.Six(nil); got || e != api.ErrShort {
		t.Errorf("Six of nothing: %v %d", got, e)
	}
}

// P9.1: the ends of a valid tunnel are of one family, and its TTL is above 0.
func TestRightCost(t *testing.T) {
	a4, a6 := addr.V4(1, 2, 3, 4), addr.V6(1, 2)
	for _, x := range []struct {
		w    tunnel.Way
		want bool
		cost int
	}{
		{way4, true, 20}, {way6, true, 40}, {tunnel.Way{Src: a4, Dst: a6, TTL: 1}, false, 40}, {tunnel.Way{Src: a6, Dst: a4, TTL: 1}, false, 20},
		{tunnel.Way{Src: a4, Dst: a4}, false, 20}, {tunnel.Way{Src: a6, Dst: a6}, false, 40}, {tunnel.Way{Src: a4, Dst: a4, TTL: 1}, true, 20},
		{tunnel.Way{Src: a6, Dst: a6, TTL: 255}, true, 40},
	} {
		if x.w.Right() != x.want || x.w.Cost() != x.cost {
			t.Errorf("%+v: Right %v, Cost %d", x.w, x.w.Right(), x.w.Cost())
		}
	}
}

// P9.2: the outer packet, of all four pairs of families.
func TestWrap(t *testing.T) {
	for _, x := range []struct {
		name  string
		w     tunnel.Way
		b     []byte
		proto uint8
		stay  bool
	}{
		{"4 in 4", way4, packet4(false, 3), 4, false}, {"4 that stays in 4", way4, packet4(true, 3), 4, true}, {"6 in 4", way4, packet6(3), 41, true},
		{"4 in 6", way6, packet4(false, 3), 4, false}, {"6 in 6", way6, packet6(3), 41, false}, {"4 with more behind it in 4", way4, append(packet4(false, 3), 1, 2), 4, false},
		{"a byte of 6 in 4", way4, []byte{0x60}, 41, true}, {"a byte of 6 in 6", way6, []byte{0x6f}, 41, false}, {"a byte of 4 in 6", way6, []byte{0x40}, 4, false},
	} {
		before := bytes.Clone(x.b)
		var want []byte
		if x.w.Dst.Six {
			want, _ = ip6.Packet(ip6.Header{Next: x.proto, Hops: x.w.TTL, Src: x.w.Src, Dst: x.w.Dst}, x.b)
		} else {
			want, _ = ip4.Packet(ip4.Header{Stay: x.stay, TTL: x.w.TTL, Proto: x.proto, Src: x.w.Src, Dst: x.w.Dst}, x.b)
		}
		got, e := x.w.Wrap(x.b)
		if e != api.OK || !bytes.Equal(got, want) || len(want) == 0 {
			t.Errorf("%s: %x %d, want %x", x.name, got, e, want)
		}
		got[len(got)-1]++
		if !bytes.Equal(before, x.b) {
			t.Errorf("%s: Wrap shares its argument", x.name)
		}
		if load, w, e := tunnel.Unwrap(want); e != api.OK || w != x.w || !bytes.Equal(load, x.b) {
			t.Errorf("%s: Unwrap %x %+v %d", x.name, load, w, e)
		}
	}
	if b, _ := way4.Wrap(packet4(false, 0)); len(b) != 40 {
		t.Errorf("example 1: %d bytes", len(b))
	}
}

// P9.2: the errors of Wrap, in their order.
func TestWrapErrors(t *testing.T) {
	mixed := tunnel.Way{Src: way4.Src, Dst: way6.Dst, TTL: 1}
	still := tunnel.Way{Src: way4.Src, Dst: way4.Dst}
	great := tunnel.Way{Src: api.Addr{High: 1}, Dst: way4.Dst, TTL: 1}
	wrong := packet4(false, 3)
	wrong[8]++
	for name, x := range map[string]struct {
		w    tunnel.Way
		b    []byte
		want api.Errno
	}{
		"nothing": {mixed, nil, api.ErrShort}, "no version": {mixed, []byte{0x50}, api.ErrForm}, "two families": {mixed, packet4(false, 3), api.ErrArg},
		"no TTL": {still, []byte{0x45}, api.ErrArg}, "no TTL, long": {still, make6(70000), api.ErrArg},
		"short 4 in 4": {way4, []byte{0x45}, api.ErrShort}, "malformed 4 in 4": {way4, append([]byte{0x44}, make([]byte, 30)...), api.ErrForm},
		"wrong sum in 4": {way4, wrong, api.ErrSum}, "wrong sum, address not valid": {great, wrong, api.ErrSum}, "address not valid": {great, packet4(false, 3), api.ErrArg},
		"long 4 in 4": {way4, packet4(false, 65496), api.ErrLong}, "long 6 in 4": {way4, make6(65516), api.ErrLong}, "long 6 in 6": {way6, make6(65536), api.ErrLong},
		"long, address not valid": {great, make6(65516), api.ErrLong},
	} {
		if b, e := x.w.Wrap(x.b); e != x.want || len(b) != 0 {
			t.Errorf("%s: %d bytes, %d, want %d", name, len(b), e, x.want)
		}
	}
	if b, e := way4.Wrap(packet4(false, 65495)); e != api.OK || len(b) != 65535 {
		t.Errorf("greatest 4 in 4: %d bytes, %d", len(b), e)
	}
	if b, e := way6.Wrap(make6(65535)); e != api.OK || len(b) != 65575 {
		t.Errorf("greatest 6 in 6: %d bytes, %d", len(b), e)
	}
}

// make6 returns n bytes that begin like a packet of IPv6.
func make6(n int) []byte {
	b := make([]byte, n)
	b[0] = 0x60
	return b
}

func in4(h ip4.Header, load []byte) []byte {
	h.TTL, h.Src, h.Dst = 64, way4.Src, way4.Dst
	b, _ := ip4.Packet(h, load)
	return b
}

func in6(next uint8, load []byte) []byte {
	b, _ := ip6.Packet(ip6.Header{Next: next, Hops: 1, Src: way6.Src, Dst: way6.Dst}, load)
	return b
}

// P9.3: the errors of Unwrap, in their order.
func TestUnwrapErrors(t *testing.T) {
	p4, p6 := packet4(false, 3), packet6(3)
	sum := in4(ip4.Header{Proto: 4}, p4)
	sum[11]++
	for name, x := range map[string]struct {
		b    []byte
		want api.Errno
	}{
		"nothing": {nil, api.ErrShort}, "no version": {[]byte{0x50}, api.ErrForm}, "short 4": {[]byte{0x45}, api.ErrShort}, "short 6": {[]byte{0x60}, api.ErrShort},
		"wrong sum": {sum, api.ErrSum}, "load missing in 4": {in4(ip4.Header{Proto: 4}, p4)[:42], api.ErrShort}, "load missing in 6": {in6(4, p4)[:62], api.ErrShort},
		"first fragment": {in4(ip4.Header{Proto: 4, More: true}, p4), api.ErrForm}, "last fragment": {in4(ip4.Header{Proto: 4, Offset: 1}, p4), api.ErrForm},
		"fragment of no packet": {in4(ip4.Header{Proto: 17, More: true}, p4), api.ErrForm}, "UDP in 4": {in4(ip4.Header{Proto: 17}, p4), api.ErrNone},
		"TCP in 6": {in6(6, p6), api.ErrNone}, "UDP without load": {in4(ip4.Header{Proto: 17}, nil), api.ErrNone}, "no load in 4": {in4(ip4.Header{Proto: 4}, nil), api.ErrShort},
		"no load in 6": {in6(41, nil), api.ErrShort}, "no version in 4": {in4(ip4.Header{Proto: 41}, []byte{0x50}), api.ErrForm}, "no version in 6": {in6(4, []byte{0}), api.ErrForm},
		"4 with number 41 in 4": {in4(ip4.Header{Proto: 41}, p4), api.ErrForm}, "6 with number 4 in 4": {in4(ip4.Header{Proto: 4}, p6), api.ErrForm},
		"4 with number 41 in 6": {in6(41, p4), api.ErrForm}, "6 with number 4 in 6": {in6(4, p6), api.ErrForm},
	} {
		if load, w, e := tunnel.Unwrap(x.b); e != x.want || len(load) != 0 || w != (tunnel.Way{}) {
			t.Errorf("%s: %x %+v %d, want %d", name, load, w, e, x.want)
		}
	}
	for _, n := range []int{5, 40, 42, 0, 255, 3} {
		if _, _, e := tunnel.Unwrap(in6(uint8(n), p6)); e != api.ErrNone {
			t.Errorf("number %d: %d", n, e)
		}
	}
}

// P9.3: what follows the packet, and its options, are left away; the result shares nothing.
func TestUnwrap(t *testing.T) {
	for _, b := range [][]byte{in4(ip4.Header{Proto: 4, Options: make([]byte, 8)}, packet4(true, 3)), in6(4, packet4(true, 3))} {
		b = append(b, 1, 2, 3)
		before := bytes.Clone(b)
		load, _, e := tunnel.Unwrap(b)
		if e != api.OK || !bytes.Equal(load, packet4(true, 3)) {
			t.Errorf("Unwrap %x %d", load, e)
		}
		load[0] = 0
		_ = append(load, 9)
		if !bytes.Equal(b, before) {
			t.Error("Unwrap shares its argument")
		}
	}
}

// P9.4: Unwrap inverts Wrap.
func TestInverse(t *testing.T) {
	rnd := rand.New(rand.NewSource(1))
	for range 1000 {
		b := packet4(rnd.Intn(2) == 0, rnd.Intn(30))
		if rnd.Intn(2) == 0 {
			b = packet6(rnd.Intn(30))
		}
		w := tunnel.Way{Src: api.Addr{Low: uint64(rnd.Uint32())}, Dst: api.Addr{Low: uint64(rnd.Uint32())}, TTL: uint8(1 + rnd.Intn(255))}
		if rnd.Intn(2) == 0 {
			w.Src, w.Dst = addr.V6(rnd.Uint64(), rnd.Uint64()), addr.V6(rnd.Uint64(), rnd.Uint64())
		}
		p, e := w.Wrap(b)
		if e != api.OK {
			t.Fatalf("Wrap in %+v: %d", w, e)
		}
		if load, got, e := tunnel.Unwrap(p); e != api.OK || got != w || !bytes.Equal(load, b) {
			t.Fatalf("Unwrap: %x %+v %d, want %+v", load, got, e, w)
		}
	}
}
