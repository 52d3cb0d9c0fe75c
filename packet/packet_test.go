package packet_test

import (
	"bytes"
	"math/rand"
	"reflect"
	"testing"

	"counterfoil/addr"
	"counterfoil/api"
	"counterfoil/icmp"
	"counterfoil/ip4"
	"counterfoil/ip6"
	"counterfoil/packet"
	"counterfoil/tcp"
	"counterfoil/udp"
)

var (
	src4, dst4 = addr.V4(10, 0, 0, 1), addr.V4(192, 168, 3, 4)
	src6, dst6 = addr.V6(0x20010db800000000, 1), addr.V6(0x20010db800000000, 2)
)

var (
	segment  = tcp.Segment{SrcPort: 1, DstPort: 2, Seq: 3, Flags: tcp.SYN, Options: []byte{1, 1, 1, 0}, Load: []byte{50, 51, 52}}
	datagram = udp.Datagram{SrcPort: 3, DstPort: 4, Load: []byte{60, 61}}
	message  = icmp.Message{Type: 3, Code: 4, Word: 5, Load: []byte{70}}
)

func in4(h ip4.Header, load []byte) []byte {
	h.Src, h.Dst = src4, dst4
	b, _ := ip4.Packet(h, load)
	return b
}

func in6(h ip6.Header, load []byte) []byte {
	h.Src, h.Dst = src6, dst6
	b, _ := ip6.Packet(h, load)
	return b
}

func with(b []byte, at int, c byte) []byte {
	out := bytes.Clone(b)
	out[at] = c
	return out
}

// plain makes nil of all empty slices.
func plain(x packet.Info) packet.Info {
	for _, b := range []*[]byte{&x.TCP.Options, &x.TCP.Load, &x.UDP.Load, &x.ICMP.Load} {
		if len(*b) == 0 {
			*b = nil
		}
	}
	return x
}

// P28.1: the names of reasons, and nothing for other integers.
func TestName(t *testing.T) {
	names := []string{
		"fine", "short", "malformed", "badsum", "fragment", "expired", "noproto", "noservice", "notable", "nobackend", "nokey", "noversion", "noslot", "evicted", "toobig", "stranger",
	}
	if packet.Reasons != 16 || packet.Stranger != 15 || packet.Fine != 0 {
		t.Error("numbers")
	}
	for i, want := range names {
		if got := packet.Name(packet.Reason(i)); got != want {
			t.Errorf("Name(%d) = %q", i, got)
		}
	}
	for _, r := range []packet.Reason{-1, 16, 17, 1 << 40, -1 << 63} {
		if got := packet.Name(r); got != "" {
			t.Errorf("Name(%d) = %q", r, got)
		}
	}
}

// P28.1: the reason for each error.
func TestOf(t *testing.T) {
	want := map[api.Errno]packet.Reason{
		api.OK: packet.Fine, api.ErrShort: packet.Short, api.ErrSum: packet.BadSum, api.ErrTag: packet.NoKey, api.ErrVersion: packet.NoVersion, api.ErrSlot: packet.NoSlot, api.ErrDead: packet.Evicted,
	}
	for e := api.Errno(-3); e < 40; e++ {
		r, ok := want[e]
		if !ok {
			r = packet.Malformed
		}
		if got := packet.Of(e); got != r {
			t.Errorf("Of(%d) = %d, want %d", e, got, r)
		}
	}
}

// both checks what Read and Host return for a packet.
func both(t *testing.T, name string, b []byte, x packet.Info, why packet.Reason) {
	t.Helper()
	for _, f := range []func([]byte) (packet.Info, packet.Reason){packet.Read, packet.Host} {
		before := bytes.Clone(b)
		got, r := f(b)
		if r != why || !reflect.DeepEqual(plain(got), plain(x)) {
			t.Errorf("%s: %+v %s, want %+v %s", name, got, packet.Name(r), x, packet.Name(why))
		}
		for _, p := range [][]byte{got.TCP.Options, got.TCP.Load, got.UDP.Load, got.ICMP.Load} {
			if len(p) > 0 {
				p[0]++
			}
		}
		if !bytes.Equal(b, before) {
			t.Errorf("%s: the result shares the packet", name)
		}
	}
}

// P28.2: what is parsed of packets of both families.
func TestRead(t *testing.T) {
	for _, ttl := range []uint8{2, 64, 255} {
		for _, stay := range []bool{false, true} {
			s4, d4, m4 := segment.Summed(src4, dst4), datagram.Summed(src4, dst4), message.Summed(src4, dst4)
			h := ip4.Header{Stay: stay, TTL: ttl, Options: []byte{1, 1, 1, 1}, ID: 9}
			info := packet.Info{Stay: stay, TTL: ttl, Flow: api.Flow{Src: src4, Dst: dst4}}
			h.Proto = 6
			x := info
			x.TCP, x.Flow.Proto, x.Flow.SrcPort, x.Flow.DstPort = s4, 6, 1, 2
			both(t, "TCP in 4", append(in4(h, s4.Bytes()), 99), x, packet.Fine)
			h.Proto = 17
			x = info
			x.UDP, x.Flow.Proto, x.Flow.SrcPort, x.Flow.DstPort = d4, 17, 3, 4
			both(t, "UDP in 4", in4(h, append(d4.Bytes(), 99)), x, packet.Fine)
			h.Proto = 1
			x = info
			x.ICMP, x.Flow.Proto = m4, 1
			both(t, "ICMP in 4", in4(h, m4.Bytes()), x, packet.Fine)
		}
		s6, d6, m6 := segment.Summed(src6, dst6), datagram.Summed(src6, dst6), message.Summed(src6, dst6)
		info := packet.Info{Six: true, Stay: true, TTL: ttl, Flow: api.Flow{Src: src6, Dst: dst6}}
		x := info
		x.TCP, x.Flow.Proto, x.Flow.SrcPort, x.Flow.DstPort = s6, 6, 1, 2
		both(t, "TCP in 6", append(in6(ip6.Header{Next: 6, Hops: ttl}, s6.Bytes()), 99), x, packet.Fine)
		x = info
		x.UDP, x.Flow.Proto, x.Flow.SrcPort, x.Flow.DstPort = d6, 17, 3, 4
		both(t, "UDP in 6", in6(ip6.Header{Next: 17, Hops: ttl, Class: 3}, append(d6.Bytes(), 99)), x, packet.Fine)
		x = info
		x.ICMP, x.Flow.Proto = m6, 58
		both(t, "ICMP in 6", in6(ip6.Header{Next: 58, Hops: ttl}, m6.Bytes()), x, packet.Fine)
	}
}

// P28.2: the reasons, each ahead of those that the document names later.
func TestReasons(t *testing.T) {
	none := packet.Info{}
	s4, s6 := segment.Summed(src4, dst4).Bytes(), segment.Summed(src6, dst6).Bytes()
	h := ip4.Header{TTL: 64, Proto: 6}
	good4, good6 := in4(h, s4), in6(ip6.Header{Hops: 64, Next: 6}, s6)
	both(t, "nothing", nil, none, packet.Short)
	both(t, "no version", []byte{0x50, 1, 2}, none, packet.Malformed)
	both(t, "short 4", good4[:30], none, packet.Short)
	both(t, "short 6", good6[:50], none, packet.Short)
	both(t, "malformed 4", with(good4, 0, 0x44), none, packet.Malformed)
	both(t, "header sum", with(good4, 1, 7), none, packet.BadSum)
	h.More = true
	both(t, "first fragment", in4(h, s4), none, packet.Fragment)
	h.More, h.Offset, h.Proto = false, 5, 99
	both(t, "last fragment of another protocol", in4(h, s4), none, packet.Fragment)
	for _, proto := range []uint8{0, 2, 4, 41, 58, 43, 44, 60, 255} {
		both(t, "protocol in 4", in4(ip4.Header{TTL: 64, Proto: proto}, s4), none, packet.NoProto)
	}
	for _, next := range []uint8{0, 1, 2, 4, 41, 43, 44, 60, 255} {
		both(t, "protocol in 6", in6(ip6.Header{Hops: 64, Next: next}, s6), none, packet.NoProto)
	}
	for proto, load := range map[uint8][]byte{6: s4[:19], 17: {0, 1, 2, 3, 0, 8, 0}, 1: {1, 2, 3, 4, 5, 6, 7}} {
		both(t, "short payload", in4(ip4.Header{TTL: 64, Proto: proto}, load), none, packet.Short)
	}
	for next, load := range map[uint8][]byte{6: s6[:19], 17: {0, 1, 2, 3, 0, 9, 0, 0}, 58: nil} {
		both(t, "short payload", in6(ip6.Header{Hops: 64, Next: next}, load), none, packet.Short)
	}
	both(t, "malformed TCP", in4(ip4.Header{TTL: 64, Proto: 6}, with(s4, 12, 0x40)), none, packet.Malformed)
	both(t, "malformed UDP", in6(ip6.Header{Hops: 64, Next: 17}, []byte{0, 1, 2, 3, 0, 7, 0, 0}), none, packet.Malformed)
	both(t, "TCP sum in 4", with(good4, len(good4)-1, 1), none, packet.BadSum)
	both(t, "TCP sum in 6", with(good6, len(good6)-1, 1), none, packet.BadSum)
	both(t, "TCP sum for others", in4(ip4.Header{TTL: 64, Proto: 6}, s6), none, packet.BadSum)
	both(t, "one byte more in the payload", in4(ip4.Header{TTL: 64, Proto: 6}, append(bytes.Clone(s4), 1)), none, packet.BadSum)
	both(t, "UDP sum in 4", in4(ip4.Header{TTL: 64, Proto: 17}, with(datagram.Summed(src4, dst4).Bytes(), 8, 0)), none, packet.BadSum)
	both(t, "UDP sum in 6", in6(ip6.Header{Hops: 64, Next: 17}, datagram.Bytes()), none, packet.BadSum)
	both(t, "ICMP sum in 4", in4(ip4.Header{TTL: 64, Proto: 1}, message.Bytes()), none, packet.BadSum)
	both(t, "ICMP sum in 6", in6(ip6.Header{Hops: 64, Next: 58}, message.Summed(src4, dst4).Bytes()), none, packet.BadSum)
	x := packet.Info{TTL: 64, Flow: api.Flow{Src: src4, Dst: dst4, SrcPort: 3, DstPort: 4, Proto: 17}, UDP: datagram}
	both(t, "UDP without sum in 4", in4(ip4.Header{TTL: 64, Proto: 17}, datagram.Bytes()), x, packet.Fine)
}

// P28.2: Expired is a reason for Read only, behind Fragment and ahead of NoProto.
func TestExpired(t *testing.T) {
	s4, s6 := segment.Summed(src4, dst4).Bytes(), segment.Summed(src6, dst6).Bytes()
	for _, ttl := range []uint8{0, 1, 2} {
		for name, x := range map[string]struct {
			b          []byte
			read, host packet.Reason
		}{
			"TCP in 4": {in4(ip4.Header{TTL: ttl, Proto: 6}, s4), packet.Expired, packet.Fine}, "TCP in 6": {in6(ip6.Header{Hops: ttl, Next: 6}, s6), packet.Expired, packet.Fine},
			"fragment": {in4(ip4.Header{TTL: ttl, Proto: 6, More: true}, s4), packet.Fragment, packet.Fragment}, "no protocol": {in4(ip4.Header{TTL: ttl, Proto: 9}, s4), packet.Expired, packet.NoProto},
			"wrong sum": {in6(ip6.Header{Hops: ttl, Next: 6}, s4), packet.Expired, packet.BadSum},
		} {
			if ttl == 2 && x.read == packet.Expired {
				x.read = x.host
			}
			info, r := packet.Read(x.b)
			if r != x.read || r != packet.Fine && !reflect.DeepEqual(plain(info), packet.Info{}) {
				t.Errorf("%s, TTL %d: Read %s", name, ttl, packet.Name(r))
			}
			info, r = packet.Host(x.b)
			if r != x.host || r == packet.Fine && info.TTL != ttl {
				t.Errorf("%s, TTL %d: Host %s", name, ttl, packet.Name(r))
			}
		}
	}
}

// P28.3: WithTCP keeps the header and puts the segment behind it.
func TestWithTCP(t *testing.T) {
	h4 := ip4.Header{Tos: 3, ID: 4, Stay: true, TTL: 5, Proto: 77, Options: []byte{1, 1, 1, 1}}
	h6 := ip6.Header{Class: 3, Label: 4, Hops: 5, Next: 77}
	before := segment.Bytes()
	for name, x := range map[string][2][]byte{
		"4": {append(in4(h4, []byte("load")), 99), in4(h4, segment.Bytes())}, "6": {append(in6(h6, []byte("load")), 99), in6(h6, segment.Bytes())},
	} {
		b := bytes.Clone(x[0])
		got, e := packet.WithTCP(b, segment)
		if e != api.OK || !bytes.Equal(got, x[1]) || !bytes.Equal(b, x[0]) {
			t.Errorf("%s: %x %d, want %x", name, got, e, x[1])
		}
		got[len(got)-1]++
	}
	if !bytes.Equal(segment.Bytes(), before) {
		t.Error("WithTCP shares the segment")
	}
}

// P28.3: the errors of WithTCP, in their order.
func TestWithTCPErrors(t *testing.T) {
	bad := tcp.Segment{Options: []byte{1}}
	long := tcp.Segment{Load: make([]byte, 65515)}
	p4, p6 := in4(ip4.Header{TTL: 5}, nil), in6(ip6.Header{Hops: 5}, nil)
	for name, x := range map[string]struct {
		b    []byte
		s    tcp.Segment
		want api.Errno
	}{
		"segment not valid": {p4, bad, api.ErrArg}, "segment not valid, no packet": {nil, bad, api.ErrArg}, "nothing": {nil, segment, api.ErrForm}, "no version": {[]byte{0x50}, segment, api.ErrForm},
		"short 4": {p4[:19], segment, api.ErrForm}, "short 6": {p6[:39], segment, api.ErrForm}, "wrong sum": {with(p4, 11, p4[11]+1), segment, api.ErrForm}, "malformed, too long": {p4[:19], long, api.ErrForm},
		"too long for 4": {p4, long, api.ErrLong}, "fits 6": {p6, long, api.OK},
	} {
		if got, e := packet.WithTCP(x.b, x.s); e != x.want || e != api.OK && len(got) != 0 || e == api.OK && len(got) != 65575 {
			t.Errorf("%s: %d bytes %d, want %d", name, len(got), e, x.want)
		}
	}
}

// P28.4: Older is that of the packet's version.
func TestOlder(t *testing.T) {
	for _, ttl := range []uint8{0, 1, 2, 64} {
		p4, p6 := append(in4(ip4.Header{TTL: ttl, Proto: 9}, []byte("load")), 9), append(in6(ip6.Header{Hops: ttl}, []byte("load")), 9)
		got, e := packet.Older(p4)
		if want, wantErr := ip4.Older(p4); e != wantErr || !bytes.Equal(got, want) {
			t.Errorf("TTL %d of 4: %x %d", ttl, got, e)
		}
		got, e = packet.Older(p6)
		if want, wantErr := ip6.Older(p6); e != wantErr || !bytes.Equal(got, want) {
			t.Errorf("TTL %d of 6: %x %d", ttl, got, e)
		}
	}
	for _, x := range []struct {
		b    []byte
		want api.Errno
	}{{nil, api.ErrShort}, {[]byte{0x50}, api.ErrForm}, {[]byte{0x45}, api.ErrShort}, {[]byte{0x60}, api.ErrShort}} {
		if got, e := packet.Older(x.b); e != x.want || len(got) != 0 {
			t.Errorf("Older of %x: %x %d", x.b, got, e)
		}
	}
}

// P28.4: Exact leaves away what follows the packet.
func TestExact(t *testing.T) {
	p4, p6 := in4(ip4.Header{TTL: 0, Proto: 9, More: true}, []byte("load")), in6(ip6.Header{}, []byte("load"))
	for _, p := range [][]byte{p4, p6} {
		for _, more := range []int{0, 1, 50} {
			b := append(bytes.Clone(p), bytes.Repeat([]byte{7}, more)...)
			got := packet.Exact(b)
			if !bytes.Equal(got, p) {
				t.Errorf("Exact %x, want %x", got, p)
			}
			_ = append(got, 99)
			if more > 0 && b[len(p)] != 7 {
				t.Error("what is appended to the result reaches the argument")
			}
		}
	}
	for _, b := range [][]byte{nil, {0x45}, {0x60}, {0x50, 1}, p4[:len(p4)-1], p6[:len(p6)-1], with(p4, 1, 1), with(p4, 0, 0x55), with(p6, 0, 0x70), p6[:39]} {
		if got := packet.Exact(b); len(got) != 0 {
			t.Errorf("Exact of %x: %x", b, got)
		}
	}
}

// P28.5: any bytes have a reason, and the result of Older the same payload.
func TestAnyBytes(t *testing.T) {
	rnd := rand.New(rand.NewSource(1))
	fine := 0
	for range 20000 {
		b := in4(ip4.Header{TTL: uint8(rnd.Intn(4)), Proto: []uint8{6, 17, 1}[rnd.Intn(3)]}, segment.Summed(src4, dst4).Bytes())
		if rnd.Intn(2) == 0 {
			b = in6(ip6.Header{Hops: uint8(rnd.Intn(4)), Next: []uint8{6, 17, 58}[rnd.Intn(3)]}, datagram.Summed(src6, dst6).Bytes())
		}
		if rnd.Intn(3) == 0 {
			b[rnd.Intn(len(b))] = byte(rnd.Intn(256))
			b = b[:rnd.Intn(len(b)+1)]
		}
		x, why := packet.Read(b)
		if packet.Name(why) == "" {
			t.Fatalf("Read of %x: %d", b, why)
		}
		if why != packet.Fine {
			continue
		}
		fine++
		old, e := packet.Older(b)
		y, whyOld := packet.Host(old)
		x.TTL--
		if e != api.OK || whyOld != packet.Fine || !reflect.DeepEqual(plain(x), plain(y)) {
			t.Fatalf("Older of %x: %d %s %+v", b, e, packet.Name(whyOld), y)
		}
	}
	if fine == 0 {
		t.Error("no packet was fine")
	}
	if x, why := packet.Read(nil); why != packet.Short || !reflect.DeepEqual(plain(x), packet.Info{}) {
		t.Errorf("example 1: %s", packet.Name(why))
	}
}
