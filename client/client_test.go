package client_test

import (
	"bytes"
	"math/rand"
	"testing"

	"counterfoil/addr"
	"counterfoil/api"
	"counterfoil/client"
	"counterfoil/cookie"
	"counterfoil/icmp"
	"counterfoil/ip4"
	"counterfoil/ip6"
	"counterfoil/octet"
	"counterfoil/packet"
	"counterfoil/tcp"
	"counterfoil/udp"
)

var (
	flow4 = api.Flow{Src: addr.V4(198, 51, 100, 7), Dst: addr.V4(192, 0, 2, 1), SrcPort: 5000, DstPort: 80, Proto: 6}
	flow6 = api.Flow{Src: addr.V6(0x20010db8, 0x0102030405060708), Dst: addr.V6(0x20010db8, 1), SrcPort: 5000, DstPort: 80, Proto: 6}
)

func quic(f api.Flow) api.Flow {
	f.Proto = 17
	return f
}

// in returns a packet of a flow.
func in(f api.Flow, load []byte) []byte {
	if f.Dst.Six {
		b, _ := ip6.Packet(ip6.Header{Next: f.Proto, Hops: 64, Src: f.Src, Dst: f.Dst}, load)
		return b
	}
	b, _ := ip4.Packet(ip4.Header{Stay: true, TTL: 64, Proto: f.Proto, Src: f.Src, Dst: f.Dst}, load)
	return b
}

// sent returns the packet that a client sends with a segment.
func sent(f api.Flow, seq uint32, flags uint8, tick, echo uint32, load []byte) []byte {
	options := octet.Put(octet.Put([]byte{1, 1, 8, 10}, uint64(tick), 4), uint64(echo), 4)
	s := tcp.Segment{SrcPort: f.SrcPort, DstPort: f.DstPort, Seq: seq, Flags: flags, Window: 65535, Options: options, Load: load}
	return in(f, s.Summed(f.Src, f.Dst).Bytes())
}

// answer returns a segment of the other end with a timestamp of its own.
func answer(f api.Flow, val uint32) []byte {
	s := tcp.Segment{SrcPort: f.DstPort, DstPort: f.SrcPort, Flags: tcp.ACK, Options: octet.Put(octet.Put([]byte{1, 1, 8, 10}, uint64(val), 4), 99, 4)}
	return in(addr.Back(f), s.Summed(f.Dst, f.Src).Bytes())
}

// given returns a datagram of the other end.
func given(f api.Flow, load []byte) []byte {
	return in(addr.Back(f), udp.Datagram{SrcPort: f.DstPort, DstPort: f.SrcPort, Load: load}.Summed(f.Dst, f.Src).Bytes())
}

// recent checks the latest timestamp.
func recent(t *testing.T, name string, c *client.Client, want uint32, ok bool) {
	t.Helper()
	if got, has := c.Recent(); got != want || has != ok {
		t.Errorf("%s: latest timestamp %x %v, want %x %v", name, got, has, want, ok)
	}
}

// P33.1: a new client, and where it moves.
func TestNewMoves(t *testing.T) {
	for _, f := range []api.Flow{flow4, flow6, quic(flow4), quic(flow6)} {
		c := client.New(f)
		recent(t, "new", c, 0, false)
		if c.Flow() != f || len(c.ID()) != 0 {
			t.Errorf("new client: %+v %x", c.Flow(), c.ID())
		}
		other := addr.V4(9, 9, 9, 9)
		if !f.Src.Six {
			other = addr.V6(9, 9)
		}
		c.Moves(other, 7)
		if c.Flow() != f {
			t.Errorf("moved to another family: %+v", c.Flow())
		}
		other.Six, other.High, other.Low = f.Src.Six, 0, 5
		c.Moves(other, 7)
		want := f
		want.Src, want.SrcPort = other, 7
		if c.Flow() != want {
			t.Errorf("moved: %+v, want %+v", c.Flow(), want)
		}
	}
}

// P33.2: segments with rising ticks and sequence numbers; a First one echoes 0.
func TestSend(t *testing.T) {
	for _, f := range []api.Flow{flow4, flow6} {
		c := client.New(f)
		seq, tick, echo := uint32(0), uint32(0), uint32(0)
		for _, x := range []struct {
			flags uint8
			load  string
			take  uint32
			first bool
		}{
			{tcp.SYN, "", 0, true}, {tcp.ACK, "abc", 0, false}, {0, "", 0x12345678, false}, {tcp.ACK, "de", 0, false}, {tcp.SYN, "f", 0, true}, {tcp.SYN | tcp.PSH, "", 0, true}, {tcp.SYN | tcp.ACK, "g", 0, false},
			{tcp.RST, "", 0x12345679, false}, {0xff, "h", 0, false}, {tcp.SYN | tcp.FIN, "", 0, false},
		} {
			if x.take != 0 {
				c.Take(answer(f, x.take))
				echo = x.take
			}
			e := echo
			if x.first {
				e = 0
			}
			want := sent(f, seq, x.flags, tick, e, []byte(x.load))
			if got, err := c.Send(x.flags, []byte(x.load)); err != api.OK || !bytes.Equal(got, want) {
				t.Errorf("flags %x: %x %d, want %x", x.flags, got, err, want)
			}
			tick++
			seq += uint32(len(x.load))
		}
		f.SrcPort = 6000
		c.Moves(f.Src, 6000)
		load := []byte("abc")
		got, err := c.Send(tcp.ACK, load)
		if err != api.OK || !bytes.Equal(got, sent(f, seq, tcp.ACK, tick, echo, load)) {
			t.Errorf("after a move: %x %d", got, err)
		}
		got[len(got)-1]++
		if string(load) != "abc" {
			t.Error("Send shares its argument")
		}
	}
}

// P33.2: the errors of Send, after which nothing has changed.
func TestSendErrors(t *testing.T) {
	c := client.New(flow4)
	for size, want := range map[int]api.Errno{65504: api.ErrArg, 65503: api.ErrLong, 65484: api.ErrLong, 70000: api.ErrArg} {
		if b, e := c.Send(tcp.ACK, make([]byte, size)); len(b) != 0 || e != want {
			t.Errorf("%d bytes: %d", size, e)
		}
	}
	if b, e := c.Send(tcp.SYN, nil); e != api.OK || !bytes.Equal(b, sent(flow4, 0, tcp.SYN, 0, 0, nil)) {
		t.Errorf("after errors: %x %d", b, e)
	}
	if b, e := c.Send(tcp.ACK, make([]byte, 65483)); e != api.OK || len(b) != 65535 {
		t.Errorf("the greatest segment: %d bytes %d", len(b), e)
	}
	six := client.New(flow6)
	if b, e := six.Send(tcp.ACK, make([]byte, 65503)); e != api.OK || len(b) != 65575 {
		t.Errorf("the greatest segment of IPv6: %d bytes %d", len(b), e)
	}
	if b, e := six.Send(tcp.ACK, make([]byte, 65504)); len(b) != 0 || e != api.ErrArg {
		t.Errorf("too long: %d", e)
	}
	for _, size := range []int{0, 65484, 70000} {
		if b, e := client.New(quic(flow4)).Send(tcp.SYN, make([]byte, size)); len(b) != 0 || e != api.ErrArg {
			t.Errorf("Send of UDP: %d", e)
		}
	}
}

// P33.3: QUIC packets, with an ID of the client's own, or with the one that it was given.
func TestSendQuic(t *testing.T) {
	for _, f := range []api.Flow{quic(flow4), quic(flow6)} {
		c := client.New(f)
		check := func(name string, head []byte) {
			t.Helper()
			load := []byte("load")
			want := in(c.Flow(), udp.Datagram{SrcPort: c.Flow().SrcPort, DstPort: c.Flow().DstPort, Load: append(bytes.Clone(head), load...)}.Summed(c.Flow().Src, c.Flow().Dst).Bytes())
			got, e := c.SendQuic(load)
			if e != api.OK || !bytes.Equal(got, want) {
				t.Errorf("%s: %x %d, want %x", name, got, e, want)
			}
			got[len(got)-1]++
			if string(load) != "load" {
				t.Errorf("%s: SendQuic shares its argument", name)
			}
		}
		low := addr.Bytes(f.Src)
		check("long", append(append([]byte{0xc0, 0, 0, 0, 1, 8, 0, 0, 0x13, 0x88}, low[len(low)-4:]...), 0))
		c.Take(given(f, nil))
		check("still long", append(append([]byte{0xc0, 0, 0, 0, 1, 8, 0, 0, 0x13, 0x88}, low[len(low)-4:]...), 0))
		c.Take(given(f, []byte("i")))
		check("a short ID", []byte("@i"))
		c.Take(given(f, []byte("twelve bytes")))
		check("short", []byte("@twelve bytes"))
		check("short again", []byte("@twelve bytes"))
		f2 := f
		f2.Src.Low++
		c.Moves(f2.Src, 9)
		check("moved", []byte("@twelve bytes"))
	}
}

// P33.3: the errors of SendQuic.
func TestSendQuicErrors(t *testing.T) {
	for _, size := range []int{0, 65513, 70000} {
		if b, e := client.New(flow4).SendQuic(make([]byte, size)); len(b) != 0 || e != api.ErrArg {
			t.Errorf("SendQuic of TCP: %d", e)
		}
	}
	for size, want := range map[int]api.Errno{65527 - 15 + 1: api.ErrArg, 65527 - 15: api.ErrLong, 65507 - 15 + 1: api.ErrLong, 65507 - 15: api.OK} {
		b, e := client.New(quic(flow4)).SendQuic(make([]byte, size))
		if e != want || (len(b) > 0) != (e == api.OK) {
			t.Errorf("%d bytes: %d, want %d", size, e, want)
		}
	}
	if b, e := client.New(quic(flow6)).SendQuic(make([]byte, 65527-15)); e != api.OK || len(b) != 65575 {
		t.Errorf("the greatest datagram of IPv6: %d", e)
	}
}

// P33.4: packets that are none for the client change nothing.
func TestTakeOthers(t *testing.T) {
	c := client.New(flow4)
	c.Take(answer(flow4, 100))
	bad := answer(flow4, 200)
	bad[len(bad)-1]++
	others := map[string][]byte{"nothing": nil, "wrong sum": bad, "its own": sent(flow4, 0, tcp.ACK, 200, 0, nil), "of UDP": given(quic(flow4), []byte("id"))}
	for i, name := range []string{"source", "destination", "source port", "destination port"} {
		f := flow4
		switch i {
		case 0:
			f.Src.Low++
		case 1:
			f.Dst.Low++
		case 2:
			f.SrcPort++
		case 3:
			f.DstPort++
		}
		others["another "+name] = answer(f, 200)
	}
	m := icmp.Message{Type: 3}.Summed(flow4.Dst, flow4.Src)
	f := addr.Back(flow4)
	f.Proto = 1
	others["ICMP"] = in(f, m.Bytes())
	for name, b := range others {
		if c.Take(b) || len(c.ID()) != 0 {
			t.Errorf("%s was taken", name)
		}
		recent(t, name, c, 100, true)
	}
	q := client.New(quic(flow6))
	if q.Take(answer(flow6, 1)) || q.Take(given(quic(flow4), []byte("id"))) || len(q.ID()) != 0 {
		t.Error("a client of UDP took a packet of others")
	}
}

// P33.4, P33.5: the latest timestamp never goes backwards, around 2^32; a TTL of 0 does not matter.
func TestTakeStamps(t *testing.T) {
	for _, f := range []api.Flow{flow4, flow6} {
		c := client.New(f)
		bare := tcp.Segment{SrcPort: f.DstPort, DstPort: f.SrcPort, Flags: tcp.ACK}.Summed(f.Dst, f.Src)
		if !c.Take(in(addr.Back(f), bare.Bytes())) {
			t.Error("a segment without timestamps was not taken")
		}
		recent(t, "no timestamps", c, 0, false)
		for _, x := range []struct{ val, want uint32 }{
			{0xfffffff0, 0xfffffff0}, {0xffffffef, 0xfffffff0}, {0xfffffff0, 0xfffffff0}, {5, 5}, {0xfffffff0, 5}, {0x80000005, 5}, {0x80000004, 0x80000004}, {4, 0x80000004}, {3, 3}, {2, 3}, {0, 3}, {9, 9},
		} {
			if !c.Take(answer(f, x.val)) {
				t.Errorf("timestamp %x was not taken", x.val)
			}
			recent(t, "timestamp", c, x.want, true)
		}
		c = client.New(f)
		c.Take(answer(f, 0))
		recent(t, "a timestamp of 0", c, 0, true)
		c.Take(answer(f, 0xffffffff))
		recent(t, "behind 0", c, 0, true)
		late, _ := packet.Older(append(answer(f, 7), 1, 2, 3))
		for range 62 {
			late, _ = packet.Older(late)
		}
		if _, why := packet.Read(late); why != packet.Expired || !c.Take(late) {
			t.Errorf("a late packet was not taken: %s", packet.Name(why))
		}
		recent(t, "late", c, 7, true)
	}
	rnd := rand.New(rand.NewSource(1))
	c := client.New(flow4)
	c.Take(answer(flow4, rnd.Uint32()))
	for range 1000 {
		was, _ := c.Recent()
		c.Take(answer(flow4, rnd.Uint32()))
		if now, _ := c.Recent(); !cookie.Ahead(was, now) {
			t.Fatalf("%x after %x", now, was)
		}
	}
}

// P33.4: the payload of a datagram becomes the ID, unless it is empty.
func TestTakeID(t *testing.T) {
	for _, f := range []api.Flow{quic(flow4), quic(flow6)} {
		c := client.New(f)
		for _, x := range []struct{ load, want string }{{"", ""}, {"i", "i"}, {"first", "first"}, {"", "first"}, {"a second, longer ID of many bytes", "a second, longer ID of many bytes"}} {
			b := given(f, []byte(x.load))
			if !c.Take(b) || string(c.ID()) != x.want {
				t.Errorf("%q: ID %q", x.load, c.ID())
			}
			b[len(b)-1]++
		}
		c.ID()[0] = 'x'
		if string(c.ID()) != "a second, longer ID of many bytes" {
			t.Error("ID shares the client")
		}
		recent(t, "UDP", c, 0, false)
	}
}

// A nil client is nobody.
func TestNil(t *testing.T) {
	var c *client.Client
	c.Moves(addr.V4(1, 2, 3, 4), 5)
	recent(t, "nil", c, 0, false)
	if c.Flow() != (api.Flow{}) || len(c.ID()) != 0 || c.Take(answer(flow4, 1)) || c.Take(nil) {
		t.Error("something is there")
	}
	if b, e := c.Send(0, make([]byte, 70000)); len(b) != 0 || e != api.ErrNil {
		t.Errorf("Send %d", e)
	}
	if b, e := c.SendQuic(nil); len(b) != 0 || e != api.ErrNil {
		t.Errorf("SendQuic %d", e)
	}
}
