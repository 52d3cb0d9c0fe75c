package steer_test

import (
	"bytes"
	"math/rand"
	"testing"

	"counterfoil/addr"
	"counterfoil/api"
	"counterfoil/ip4"
	"counterfoil/ip6"
	"counterfoil/packet"
	"counterfoil/steer"
	"counterfoil/tcp"
	"counterfoil/udp"
)

var (
	src4, dst4 = addr.V4(10, 0, 0, 1), addr.V4(192, 168, 3, 4)
	src6, dst6 = addr.V6(0x20010db800000000, 1), addr.V6(0x20010db800000000, 2)
)

// stamps are options with the timestamps 01020304 and 05060708 (hexadecimal).
var stamps = []byte{1, 1, 8, 10, 1, 2, 3, 4, 5, 6, 7, 8}

func segment(options []byte) []byte {
	return tcp.Segment{SrcPort: 0x1112, DstPort: 0x1314, Seq: 7, Flags: tcp.ACK, Options: options, Load: []byte("load")}.Bytes()
}

func in4(proto uint8, options, load []byte) []byte {
	b, _ := ip4.Packet(ip4.Header{ID: 7, Stay: true, TTL: 9, Proto: proto, Src: src4, Dst: dst4, Options: options}, load)
	return b
}

func in6(next uint8, load []byte) []byte {
	b, _ := ip6.Packet(ip6.Header{Label: 3, Hops: 9, Next: next, Src: src6, Dst: dst6}, load)
	return b
}

func with(b []byte, at int, c byte) []byte {
	out := bytes.Clone(b)
	out[at] = c
	return out
}

func flow(six bool, proto uint8) api.Flow {
	f := api.Flow{Src: src4, Dst: dst4, SrcPort: 0x1112, DstPort: 0x1314, Proto: proto}
	if six {
		f.Src, f.Dst = src6, dst6
	}
	return f
}

// P29.1: flows and timestamps of quoted packets.
func TestRead(t *testing.T) {
	datagram := udp.Datagram{SrcPort: 0x1112, DstPort: 0x1314, Load: stamps}.Bytes()
	for name, x := range map[string]struct {
		b    []byte
		six  bool
		want steer.Quoted
	}{
		"TCP in 4": {in4(6, nil, segment(stamps)), false, steer.Quoted{Flow: flow(false, 6), Stamp: 0x01020304, Has: true}}, "TCP in 6": {in6(6, segment(stamps)), true, steer.Quoted{Flow: flow(true, 6), Stamp: 0x01020304, Has: true}},
		"no stamps": {in4(6, nil, segment(nil)), false, steer.Quoted{Flow: flow(false, 6)}}, "other options": {in6(6, segment([]byte{1, 1, 1, 0})), true, steer.Quoted{Flow: flow(true, 6)}},
		"UDP in 4": {in4(17, nil, datagram), false, steer.Quoted{Flow: flow(false, 17)}}, "UDP in 6": {in6(17, datagram), true, steer.Quoted{Flow: flow(true, 17)}},
		"UDP that looks like TCP": {in4(17, nil, segment(stamps)), false, steer.Quoted{Flow: flow(false, 17)}}, "options of IPv4": {in4(6, make([]byte, 40), segment(stamps)), false, steer.Quoted{Flow: flow(false, 6), Stamp: 0x01020304, Has: true}},
		"wrong sum and length": {with(with(in4(6, nil, segment(stamps)), 10, 99), 2, 99), false, steer.Quoted{Flow: flow(false, 6), Stamp: 0x01020304, Has: true}},
		"wrong length in 6":    {with(in6(6, segment(stamps)), 4, 99), true, steer.Quoted{Flow: flow(true, 6), Stamp: 0x01020304, Has: true}}, "reserved bit": {with(in4(17, nil, datagram), 6, 0xc0), false, steer.Quoted{Flow: flow(false, 17)}},
		"lower bits of TCP length": {with(in4(6, nil, segment(stamps)), 32, 0x81), false, steer.Quoted{Flow: flow(false, 6)}}, "TCP header of 16": {with(in4(6, nil, segment(stamps)), 32, 0x40), false, steer.Quoted{Flow: flow(false, 6)}},
		"TCP header too long": {with(in4(6, nil, segment(stamps)), 32, 0xf0), false, steer.Quoted{Flow: flow(false, 6)}}, "stamps of length 9": {in4(6, nil, segment(append([]byte{8, 9}, make([]byte, 10)...))), false, steer.Quoted{Flow: flow(false, 6)}},
		"end ahead of stamps": {in4(6, nil, segment(append([]byte{0, 0, 0, 0}, stamps...))), false, steer.Quoted{Flow: flow(false, 6)}},
	} {
		before := bytes.Clone(x.b)
		if q, ok := steer.Read(x.b, x.six); !ok || q != x.want || !bytes.Equal(x.b, before) {
			t.Errorf("%s: %+v %v, want %+v", name, q, ok, x.want)
		}
	}
}

// P29.1: what does not tell a flow.
func TestReadErrors(t *testing.T) {
	p4, p6 := in4(6, nil, segment(stamps)), in6(6, segment(stamps))
	for name, x := range map[string]struct {
		b   []byte
		six bool
	}{
		"4 read as 6": {p4, true}, "6 read as 4": {p6, false}, "version 5": {with(p4, 0, 0x55), false}, "version 7": {with(p6, 0, 0x70), true}, "version 12": {with(p4, 0, 0xc5), false},
		"header of 16": {with(p4, 0, 0x44), false}, "header of 0": {with(p4, 0, 0x40), false}, "header of 60": {with(p4, 0, 0x4f), false}, "More": {with(p4, 6, 0x20), false}, "Offset 256": {with(p4, 6, 1), false},
		"Offset 1": {with(p4, 7, 1), false}, "Offset 4096": {with(p4, 6, 0x10), false}, "ICMP in 4": {with(p4, 9, 1), false}, "ICMP in 6": {with(p6, 6, 58), true}, "an extension header": {with(p6, 6, 44), true}, "nothing": {nil, true},
	} {
		if q, ok := steer.Read(x.b, x.six); ok || q != (steer.Quoted{}) {
			t.Errorf("%s: %+v", name, q)
		}
	}
}

// P29.1, P29.2: how much of a packet is needed for its flow, and for its timestamp.
func TestReadPrefixes(t *testing.T) {
	for _, x := range []struct {
		b    []byte
		six  bool
		head int
	}{{in4(6, nil, segment(stamps)), false, 20}, {in4(6, make([]byte, 8), segment(stamps)), false, 28}, {in6(6, segment(stamps)), true, 40}} {
		for n := range len(x.b) + 1 {
			q, ok := steer.Read(x.b[:n], x.six)
			if ok != (n >= x.head+8) || q.Has != (n >= x.head+32) {
				t.Errorf("%d bytes: %+v %v", n, q, ok)
			}
			if ok && q.Flow != flow(x.six, 6) || !ok && q != (steer.Quoted{}) || q.Has && q.Stamp != 0x01020304 || !q.Has && q.Stamp != 0 {
				t.Errorf("%d bytes: %+v", n, q)
			}
		}
	}
}

// P29.2: Read agrees with packet.Read for every packet that is fine.
func TestAgrees(t *testing.T) {
	rnd := rand.New(rand.NewSource(1))
	for range 2000 {
		s := tcp.Segment{SrcPort: uint16(rnd.Uint32()), DstPort: uint16(rnd.Uint32()), Options: make([]byte, 4*rnd.Intn(11)), Load: make([]byte, rnd.Intn(9))}
		rnd.Read(s.Options)
		if len(s.Options) >= 12 && rnd.Intn(2) == 0 {
			copy(s.Options, stamps)
			rnd.Read(s.Options[4:12])
		}
		d := udp.Datagram{SrcPort: s.SrcPort, DstPort: s.DstPort, Load: s.Load}
		six := rnd.Intn(2) == 0
		var b []byte
		switch {
		case six && rnd.Intn(2) == 0:
			b = in6(6, s.Summed(src6, dst6).Bytes())
		case six:
			b = in6(17, d.Summed(src6, dst6).Bytes())
		case rnd.Intn(2) == 0:
			b = in4(6, make([]byte, 4*rnd.Intn(11)), s.Summed(src4, dst4).Bytes())
		default:
			b = in4(17, nil, d.Summed(src4, dst4).Bytes())
		}
		info, why := packet.Read(b)
		if why != packet.Fine {
			t.Fatalf("packet.Read: %s", packet.Name(why))
		}
		val, _, has := info.TCP.Stamp()
		if q, ok := steer.Read(b, six); !ok || q != (steer.Quoted{Flow: info.Flow, Stamp: val, Has: has}) {
			t.Fatalf("Read of %x: %+v, want %+v %x %v", b, q, info.Flow, val, has)
		}
		if q, ok := steer.Read(b[:rnd.Intn(len(b))], six); ok && q.Flow != info.Flow {
			t.Fatalf("Read of a prefix: %+v", q)
		}
	}
}
