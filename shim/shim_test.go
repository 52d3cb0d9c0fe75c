package shim_test

import (
	"bytes"
	"math/rand"
	"testing"

	"counterfoil/addr"
	"counterfoil/api"
	"counterfoil/cid"
	"counterfoil/codec"
	"counterfoil/config"
	"counterfoil/cookie"
	"counterfoil/follow"
	"counterfoil/icmp"
	"counterfoil/ip4"
	"counterfoil/ip6"
	"counterfoil/load"
	"counterfoil/packet"
	"counterfoil/plane"
	"counterfoil/policy"
	"counterfoil/shim"
	"counterfoil/siphash"
	"counterfoil/tcp"
	"counterfoil/tunnel"
	"counterfoil/udp"
)

var (
	key   = siphash.Of(1, 2)
	vip4  = addr.V4(192, 0, 2, 1)
	vip6  = addr.V6(0x20010db8, 1)
	flow4 = api.Flow{Src: addr.V4(198, 51, 100, 7), Dst: vip4, SrcPort: 5000, DstPort: 80, Proto: 6}
	flow6 = api.Flow{Src: addr.V6(0x20010db8, 7), Dst: vip6, SrcPort: 5000, DstPort: 80, Proto: 6}
	way   = tunnel.Way{Src: addr.V4(10, 0, 1, 1), Dst: addr.V4(10, 0, 2, 3), TTL: 64}
)

func newShim(t *testing.T, most int) *shim.Shim {
	t.Helper()
	s, e := shim.New(3, most, cid.Lease{Next: 10, End: 13})
	if e != api.OK {
		t.Fatalf("New: %d", e)
	}
	return s
}

func stamps(val, echo uint32) []byte {
	b := []byte{1, 1, 8, 10}
	for _, n := range []uint32{val, echo} {
		b = append(b, byte(n>>24), byte(n>>16), byte(n>>8), byte(n))
	}
	return b
}

// segment returns one of a flow, with a correct checksum.
func segment(f api.Flow, flags uint8, options []byte) tcp.Segment {
	return tcp.Segment{SrcPort: f.SrcPort, DstPort: f.DstPort, Seq: 1, Flags: flags, Window: 5, Options: options, Load: []byte("load")}.Summed(f.Src, f.Dst)
}

// in returns a packet of a flow, with a TTL.
func in(f api.Flow, ttl uint8, load []byte) []byte {
	if f.Dst.Six {
		b, _ := ip6.Packet(ip6.Header{Next: f.Proto, Hops: ttl, Src: f.Src, Dst: f.Dst}, load)
		return b
	}
	b, _ := ip4.Packet(ip4.Header{ID: 77, TTL: ttl, Proto: f.Proto, Src: f.Src, Dst: f.Dst}, load)
	return b
}

func wrap(t *testing.T, b []byte) []byte {
	t.Helper()
	p, e := way.Wrap(b)
	if e != api.OK {
		t.Fatalf("Wrap: %d", e)
	}
	return p
}

// arrive lets a packet arrive that must be fine, and compares what is delivered.
func arrive(t *testing.T, name string, s *shim.Shim, b []byte, now uint32, f api.Flow, load []byte) {
	t.Helper()
	before := bytes.Clone(b)
	d, why := s.Arrive(b, now)
	if why != packet.Fine || d.Flow != f || !bytes.Equal(d.Load, load) {
		t.Errorf("%s: %s %+v, want %+v %x", name, packet.Name(why), d, f, load)
	}
	for i := range d.Load {
		d.Load[i]++
	}
	if !bytes.Equal(b, before) {
		t.Errorf("%s: the delivery shares the packet", name)
	}
}

// word returns the connection's word, as the next segment to the client shows it.
func word(t *testing.T, s *shim.Shim, f api.Flow) int {
	t.Helper()
	b, e := s.Leave(f, tcp.Segment{Flags: tcp.ACK, Options: stamps(0x55556666, 0)})
	if e == api.ErrNone {
		return -1
	}
	x, why := packet.Host(b)
	val, _, ok := x.TCP.Stamp()
	if e != api.OK || why != packet.Fine || !ok || val>>16 != 0x6666 {
		t.Errorf("Leave: %d %s %x", e, packet.Name(why), val)
	}
	return int(val & 0xffff)
}

// P32.1: the bounds of New.
func TestNew(t *testing.T) {
	for _, x := range []struct {
		backend, most int
		ok            bool
	}{{1, 1, true}, {64, 1024, true}, {0, 5, false}, {-1, 5, false}, {65, 5, false}, {5, 0, false}, {5, 1025, false}, {5, -1, false}, {0, 0, false}} {
		s, e := shim.New(x.backend, x.most, cid.Lease{})
		if x.ok && (e != api.OK || s.Backend() != x.backend || s.Conns() != 0 || s.State() != nil || s.Known() != 0) || !x.ok && (e != api.ErrArg || s != nil) {
			t.Errorf("New(%d, %d): %d", x.backend, x.most, e)
		}
	}
}

// P32.2: a segment that opens a connection brings its cookie, and echoes 0 afterwards.
func TestArriveFirst(t *testing.T) {
	s := newShim(t, 5)
	for i, f := range []api.Flow{flow4, flow6} {
		x := segment(f, tcp.SYN, stamps(7, 0xabcd1234))
		want := segment(f, tcp.SYN, stamps(7, 0))
		want.Sum = x.WithEcho(0).Sum
		arrive(t, "first", s, append(wrap(t, in(f, 9, x.Bytes())), 9, 9), 99, f, want.Bytes())
		if !tcp.Fine(want.Bytes(), f.Src, f.Dst) {
			t.Error("checksum")
		}
		if s.Conns() != i+1 || word(t, s, f) != 0x1234 {
			t.Errorf("%d connections, word %x", s.Conns(), word(t, s, f))
		}
	}
}

// P32.2: other segments bring their cookie if ACK is set, and echo the tick afterwards.
func TestArriveLater(t *testing.T) {
	s := newShim(t, 5)
	for _, f := range []api.Flow{flow4, flow6} {
		for _, flags := range []uint8{tcp.ACK, tcp.ACK | tcp.SYN, tcp.ACK | tcp.RST, tcp.ACK | tcp.FIN | tcp.PSH} {
			for _, now := range []uint32{0x20005, 0x10000005, 3} {
				x := segment(f, flags, stamps(7, 0x0009abcd))
				want := x.WithEcho(cookie.Restore(now, 9))
				arrive(t, "later", s, wrap(t, in(f, 9, x.Bytes())), now, f, want.Bytes())
				if word(t, s, f) != 0xabcd {
					t.Errorf("word %x", word(t, s, f))
				}
				arrive(t, "another cookie", s, wrap(t, in(f, 9, segment(f, flags, stamps(7, 0x00090007)).Bytes())), now, f, segment(f, flags, stamps(7, 0x00090007)).WithEcho(cookie.Restore(now, 9)).Bytes())
				if word(t, s, f) != 7 {
					t.Errorf("word %x", word(t, s, f))
				}
			}
		}
	}
}

// P32.2: segments without timestamps, and those without ACK that open nothing, are delivered as they are.
func TestArriveAsIs(t *testing.T) {
	s := newShim(t, 5)
	for _, f := range []api.Flow{flow4, flow6} {
		for _, x := range []tcp.Segment{
			segment(f, tcp.SYN, nil), segment(f, tcp.ACK, nil), segment(f, tcp.ACK, []byte{1, 1, 1, 0}), segment(f, tcp.RST, stamps(7, 0x0009abcd)), segment(f, 0, stamps(7, 0x0009abcd)),
			segment(f, tcp.SYN|tcp.FIN, stamps(7, 0x0009abcd)), segment(f, tcp.FIN|tcp.PSH, stamps(7, 0x0009abcd)),
		} {
			arrive(t, "as it is", s, wrap(t, in(f, 9, x.Bytes())), 0x12345678, f, x.Bytes())
		}
	}
	if s.Conns() != 0 {
		t.Errorf("%d connections", s.Conns())
	}
}

// P32.2: datagrams and messages are delivered, without bytes beyond a datagram's length; no packet is too old.
func TestArriveOthers(t *testing.T) {
	s := newShim(t, 5)
	for _, f := range []api.Flow{flow4, flow6} {
		f.Proto = 17
		d := udp.Datagram{SrcPort: f.SrcPort, DstPort: f.DstPort, Load: []byte("quic")}.Summed(f.Src, f.Dst)
		arrive(t, "UDP", s, wrap(t, in(f, 0, append(d.Bytes(), 8, 8))), 1, f, d.Bytes())
		f.Proto, f.SrcPort, f.DstPort = 1, 0, 0
		if f.Src.Six {
			f.Proto = 58
		}
		m := icmp.Message{Type: 3, Word: 5, Load: []byte("quote")}.Summed(f.Src, f.Dst)
		arrive(t, "ICMP", s, wrap(t, in(f, 1, m.Bytes())), 1, f, m.Bytes())
	}
	if s.Conns() != 0 {
		t.Errorf("%d connections", s.Conns())
	}
}

// P32.2: the reasons, of the tunnel and then of the carried packet.
func TestArriveReasons(t *testing.T) {
	s := newShim(t, 5)
	good := in(flow4, 9, segment(flow4, tcp.SYN, stamps(7, 5)).Bytes())
	bad := bytes.Clone(good)
	bad[len(bad)-1]++
	fragment, _ := ip4.Packet(ip4.Header{TTL: 9, Proto: 4, More: true, Src: way.Src, Dst: way.Dst}, good)
	odd, _ := ip4.Packet(ip4.Header{TTL: 9, Proto: 41, Src: way.Src, Dst: way.Dst}, good)
	sum := wrap(t, good)
	sum[11]++
	six := flow6
	six.Proto = 44
	for name, x := range map[string]struct {
		b    []byte
		want packet.Reason
	}{
		"nothing": {nil, packet.Short}, "no version": {[]byte{0x50}, packet.Malformed}, "short": {wrap(t, good)[:30], packet.Short}, "wrong sum outside": {sum, packet.BadSum}, "no tunnel": {good, packet.Stranger},
		"a fragment": {fragment, packet.Malformed}, "a wrong number": {odd, packet.Malformed}, "wrong sum inside": {wrap(t, bad), packet.BadSum}, "no protocol inside": {wrap(t, in(six, 9, []byte("x"))), packet.NoProto},
		"a tunnel inside": {wrap(t, wrap(t, good)), packet.NoProto},
	} {
		if d, why := s.Arrive(x.b, 1); why != x.want || d.Flow != (api.Flow{}) || len(d.Load) != 0 {
			t.Errorf("%s: %s %+v, want %s", name, packet.Name(why), d, packet.Name(x.want))
		}
	}
	if s.Conns() != 0 {
		t.Errorf("%d connections", s.Conns())
	}
}

// P32.3: Leave sends a segment to the client, whose own timestamp bears the cookie.
func TestLeave(t *testing.T) {
	s := newShim(t, 5)
	for _, f := range []api.Flow{flow4, flow6} {
		s.Arrive(wrap(t, in(f, 9, segment(f, tcp.SYN, stamps(7, 0xbeef)).Bytes())), 1)
		for _, options := range [][]byte{stamps(0x12345678, 0x9abcdef0), append([]byte{1}, append(stamps(0x12345678, 0x9abcdef0), 1, 1, 1)...), nil, {1, 1, 1, 0}} {
			x := tcp.Segment{SrcPort: 1, DstPort: 2, Seq: 3, Ack: 4, Flags: tcp.ACK, Window: 6, Sum: 7, Urgent: 8, Options: options, Load: []byte("load")}
			before := x.Bytes()
			want := tcp.Segment{SrcPort: f.DstPort, DstPort: f.SrcPort, Seq: 3, Ack: 4, Flags: tcp.ACK, Window: 6, Urgent: 8, Options: bytes.Clone(options), Load: []byte("load")}
			if at, ok := tcp.Stamps(options); ok {
				copy(want.Options[at:], []byte{0x56, 0x78, 0xbe, 0xef})
			}
			load := want.Summed(f.Dst, f.Src).Bytes()
			p, _ := ip4.Packet(ip4.Header{Stay: true, TTL: 64, Proto: 6, Src: f.Dst, Dst: f.Src}, load)
			if f.Src.Six {
				p, _ = ip6.Packet(ip6.Header{Next: 6, Hops: 64, Src: f.Dst, Dst: f.Src}, load)
			}
			got, e := s.Leave(f, x)
			if e != api.OK || !bytes.Equal(got, p) {
				t.Errorf("Leave %x %d, want %x", got, e, p)
			}
			if !bytes.Equal(x.Bytes(), before) {
				t.Error("Leave changed its argument")
			}
		}
	}
}

// P32.3: the errors of Leave, in their order.
func TestLeaveErrors(t *testing.T) {
	s := newShim(t, 5)
	unknown := flow4
	unknown.SrcPort++
	s.Arrive(wrap(t, in(flow4, 9, segment(flow4, tcp.SYN, stamps(7, 0xbeef)).Bytes())), 1)
	change := func(f func(f *api.Flow)) api.Flow {
		g := flow4
		f(&g)
		return g
	}
	long := func(options []byte) tcp.Segment {
		return tcp.Segment{Options: options, Load: make([]byte, 65535-20-len(options))}
	}
	for name, x := range map[string]struct {
		f    api.Flow
		x    tcp.Segment
		want api.Errno
	}{
		"segment not valid": {flow4, tcp.Segment{Options: []byte{1}}, api.ErrArg}, "segment too long": {flow4, tcp.Segment{Load: make([]byte, 65516)}, api.ErrArg}, "UDP": {change(func(f *api.Flow) { f.Proto = 17 }), tcp.Segment{Options: stamps(1, 2)}, api.ErrArg},
		"two families": {change(func(f *api.Flow) { f.Src = vip6 }), tcp.Segment{Options: stamps(1, 2)}, api.ErrArg}, "two families, turned": {change(func(f *api.Flow) { f.Dst = vip6 }), tcp.Segment{Options: stamps(1, 2)}, api.ErrArg},
		"Src not valid": {change(func(f *api.Flow) { f.Src.High = 1 }), tcp.Segment{Options: stamps(1, 2)}, api.ErrArg}, "Dst not valid": {change(func(f *api.Flow) { f.Dst.Low = 1 << 32 }), tcp.Segment{Options: stamps(1, 2)}, api.ErrArg},
		"not known": {unknown, tcp.Segment{Options: stamps(1, 2)}, api.ErrNone}, "not known, too long": {unknown, long(stamps(1, 2)), api.ErrNone}, "not known, no timestamps": {unknown, tcp.Segment{}, api.OK},
		"too long": {flow4, long(stamps(1, 2)), api.ErrLong}, "too long, no timestamps": {unknown, long(nil), api.ErrLong}, "not known and not valid": {unknown, tcp.Segment{Options: append(stamps(1, 2), 0)}, api.ErrArg},
		"fits": {flow4, tcp.Segment{Load: make([]byte, 65495)}, api.OK},
	} {
		if b, e := s.Leave(x.f, x.x); e != x.want || (len(b) > 0) != (e == api.OK) {
			t.Errorf("%s: %d bytes %d, want %d", name, len(b), e, x.want)
		}
	}
}

// P32.3: Leave uses the connection, also where the packet is refused then; without timestamps it does not.
func TestLeaveUses(t *testing.T) {
	other := func(n uint16) api.Flow {
		f := flow4
		f.SrcPort = n
		return f
	}
	open := func(s *shim.Shim, f api.Flow) {
		s.Arrive(wrap(t, in(f, 9, segment(f, tcp.SYN, stamps(7, 5)).Bytes())), 1)
	}
	for name, x := range map[string]struct {
		x    tcp.Segment
		used bool
	}{
		"sent": {tcp.Segment{Options: stamps(1, 2)}, true}, "refused": {tcp.Segment{Options: stamps(1, 2), Load: make([]byte, 65503)}, true}, "no timestamps": {tcp.Segment{}, false},
		"not valid": {tcp.Segment{Options: append(stamps(1, 2), 1)}, false},
	} {
		s := newShim(t, 2)
		open(s, other(1))
		open(s, other(2))
		s.Leave(other(1), x.x)
		open(s, other(3))
		if s.Conns() != 2 || (word(t, s, other(1)) >= 0) != x.used || (word(t, s, other(2)) >= 0) == x.used || word(t, s, other(3)) != 5 {
			t.Errorf("%s: words %d %d", name, word(t, s, other(1)), word(t, s, other(2)))
		}
	}
}

// P32.3: LeaveUDP, and its errors in their order.
func TestLeaveUDP(t *testing.T) {
	s := newShim(t, 5)
	for _, f := range []api.Flow{flow4, flow6} {
		f.Proto = 17
		load := []byte("answer")
		want := udp.Datagram{SrcPort: f.DstPort, DstPort: f.SrcPort, Load: load}.Summed(f.Dst, f.Src).Bytes()
		p, _ := ip4.Packet(ip4.Header{Stay: true, TTL: 64, Proto: 17, Src: f.Dst, Dst: f.Src}, want)
		if f.Src.Six {
			p, _ = ip6.Packet(ip6.Header{Next: 17, Hops: 64, Src: f.Dst, Dst: f.Src}, want)
		}
		got, e := s.LeaveUDP(f, load)
		if e != api.OK || !bytes.Equal(got, p) {
			t.Errorf("LeaveUDP %x %d, want %x", got, e, p)
		}
		got[len(got)-1]++
		if string(load) != "answer" {
			t.Error("LeaveUDP shares its argument")
		}
	}
	f := flow4
	f.Proto = 17
	mixed, wrong := f, f
	mixed.Src = vip6
	wrong.Dst.High = 1
	for name, x := range map[string]struct {
		f    api.Flow
		size int
		want api.Errno
	}{
		"TCP": {flow4, 1, api.ErrArg}, "two families": {mixed, 1, api.ErrArg}, "not valid": {wrong, 1, api.ErrArg}, "datagram too long": {f, 65528, api.ErrArg}, "too long": {f, 65508, api.ErrLong}, "fits": {f, 65507, api.OK},
		"empty": {f, 0, api.OK},
	} {
		if b, e := s.LeaveUDP(x.f, make([]byte, x.size)); e != x.want || (len(b) > 0) != (e == api.OK) {
			t.Errorf("%s: %d bytes %d, want %d", name, len(b), e, x.want)
		}
	}
}

// state returns a state in which backend 3 is at slot 1 of version 1 of service 0, and in no newest table of the services 1 and 2.
func state(t *testing.T) *config.State {
	t.Helper()
	c := config.New(key)
	ops := []config.Op{{Kind: config.Rotate}}
	for n := 1; n <= 4; n++ {
		ops = append(ops, config.Op{Kind: config.AddBackend, Backend: n, Addr: addr.V4(10, 0, 2, byte(n))})
	}
	for _, port := range []uint16{80, 81, 82} {
		ops = append(ops, config.Op{Kind: config.AddVip, Addr: vip4, Port: port, Proto: 6, Way: policy.Turns})
	}
	m := func(l ...int) []config.Member {
		var x []config.Member
		for _, n := range l {
			x = append(x, config.Member{Backend: n, Weight: 1})
		}
		return x
	}
	ops = append(ops, config.Op{Kind: config.SetMembers, Vip: 0, Members: m(1)}, config.Op{Kind: config.SetMembers, Vip: 0, Members: m(3, 2)})
	ops = append(ops, config.Op{Kind: config.SetMembers, Vip: 1, Members: m(3)}, config.Op{Kind: config.SetMembers, Vip: 1, Members: m(1)})
	for _, o := range ops {
		if e := c.Apply(o); e != api.OK {
			t.Fatalf("Apply %d", e)
		}
	}
	return c
}

func learn(t *testing.T, f interface {
	Receive(follow.Message) api.Errno
}, c *config.State) {
	t.Helper()
	if e := f.Receive(follow.Message{Kind: follow.Whole, Num: c.Num, L: [][]byte{codec.State(c)}}); e != api.OK {
		t.Fatalf("Receive %d", e)
	}
}

// P32.4: Place and Issue.
func TestPlaceIssue(t *testing.T) {
	s := newShim(t, 5)
	for vip := -1; vip < 5; vip++ {
		if p, e := s.Place(vip); p != (cookie.Place{}) || e != api.ErrNone {
			t.Errorf("no state: %+v %d", p, e)
		}
		if id, e := s.Issue(vip); len(id) != 0 || e != api.ErrNone {
			t.Errorf("no state: %x %d", id, e)
		}
	}
	c := state(t)
	learn(t, s, c)
	want := cookie.Place{Version: 1, Slot: 1}
	if p, e := s.Place(0); p != want || e != api.OK {
		t.Errorf("Place %+v %d", p, e)
	}
	for _, vip := range []int{-1, 1, 2, 3, 99} {
		if p, e := s.Place(vip); p != (cookie.Place{}) || e != api.ErrNone {
			t.Errorf("Place of service %d: %+v %d", vip, p, e)
		}
		if id, e := s.Issue(vip); len(id) != 0 || e != api.ErrNone {
			t.Errorf("Issue of service %d: %x %d", vip, id, e)
		}
	}
	for once := uint64(10); once < 13; once++ {
		id, e := s.Issue(0)
		made, _ := cid.Make(c.Ring, want, once)
		if e != api.OK || !bytes.Equal(id, made) {
			t.Errorf("Issue %x %d, want %x", id, e, made)
		}
	}
	for range 2 {
		if id, e := s.Issue(0); len(id) != 0 || e != api.ErrNone {
			t.Errorf("Issue of an empty lease: %x %d", id, e)
		}
	}
	great, _ := shim.New(3, 1, cid.Lease{Next: cid.MostOnce + 1, End: cid.MostOnce + 5})
	learn(t, great, c)
	if id, e := great.Issue(0); len(id) != 0 || e != api.ErrArg {
		t.Errorf("Issue of a number too great: %x %d", id, e)
	}
	if id, e := great.Issue(1); len(id) != 0 || e != api.ErrNone {
		t.Errorf("Issue without a place: %x %d", id, e)
	}
}

// P32.4: reports are numbered from 1 on.
func TestReport(t *testing.T) {
	s := newShim(t, 5)
	for i, x := range []load.Report{{Load: 7, Well: true}, {Load: 0}, {Load: 1<<32 - 1, Well: true}} {
		x.Backend, x.Num = 3, uint64(i+1)
		if got := s.Report(x.Load, x.Well); got != x {
			t.Errorf("Report %+v, want %+v", got, x)
		}
	}
}

// A nil shim, and what is promised of a zero one.
func TestNil(t *testing.T) {
	var none *shim.Shim
	x := tcp.Segment{Options: []byte{1}}
	for _, s := range []*shim.Shim{none, {}} {
		if d, why := s.Arrive(nil, 1); why != packet.NoTable || d.Flow != (api.Flow{}) || len(d.Load) != 0 {
			t.Errorf("Arrive %s", packet.Name(why))
		}
		if d, why := s.Arrive(wrap(t, in(flow4, 9, segment(flow4, tcp.SYN, stamps(1, 2)).Bytes())), 1); why != packet.NoTable || len(d.Load) != 0 {
			t.Errorf("Arrive %s", packet.Name(why))
		}
		if b, e := s.Leave(api.Flow{}, x); len(b) != 0 || e != api.ErrNil {
			t.Errorf("Leave %d", e)
		}
		if b, e := s.Leave(flow4, tcp.Segment{}); len(b) != 0 || e != api.ErrNil {
			t.Errorf("Leave %d", e)
		}
	}
	if b, e := none.LeaveUDP(api.Flow{}, nil); len(b) != 0 || e != api.ErrNil {
		t.Errorf("LeaveUDP %d", e)
	}
	if p, e := none.Place(0); p != (cookie.Place{}) || e != api.ErrNil {
		t.Errorf("Place %d", e)
	}
	if id, e := none.Issue(0); len(id) != 0 || e != api.ErrNil {
		t.Errorf("Issue %d", e)
	}
	if none.Backend() != 0 || none.Conns() != 0 || none.Report(1, true) != (load.Report{}) {
		t.Error("something is there")
	}
}

// P32.5, example 1 of New: what a replica forwards reaches the stack as the client sent it, and the cookie comes back.
func TestWithReplica(t *testing.T) {
	if s, e := shim.New(0, 1, cid.Lease{}); s != nil || e != api.ErrArg {
		t.Errorf("example 1: %d", e)
	}
	c := state(t)
	p, _ := plane.New(plane.Setting{Four: addr.V4(10, 0, 1, 1), Six: addr.V6(0, 1), Most: 1500})
	learn(t, p, c)
	rnd := rand.New(rand.NewSource(1))
	shims := map[int]*shim.Shim{}
	for range 300 {
		f := flow4
		f.SrcPort = uint16(rnd.Uint32())
		x := segment(f, tcp.SYN, stamps(rnd.Uint32(), rnd.Uint32()))
		out := p.Process(in(f, 9, x.Bytes()), [2]uint32{})
		if out.Kind != plane.Forward {
			t.Fatalf("result %+v", out)
		}
		s := shims[out.Backend]
		if s == nil {
			s, _ = shim.New(out.Backend, 1024, cid.Lease{})
			shims[out.Backend] = s
		}
		d, why := s.Arrive(out.Packet, 1)
		got, e := tcp.Parse(d.Load)
		want := x.WithEcho(0)
		if why != packet.Fine || e != api.OK || !tcp.Fine(d.Load, f.Src, f.Dst) || d.Flow != f {
			t.Fatalf("Arrive %s %d", packet.Name(why), e)
		}
		// Two changes of the checksum may write 0 as all ones, which is the same number.
		got.Sum, want.Sum = 0, 0
		if !bytes.Equal(got.Bytes(), want.Bytes()) {
			t.Fatalf("delivered %+v, want %+v", got, want)
		}
		back, e := s.Leave(f, tcp.Segment{Flags: tcp.SYN | tcp.ACK, Options: stamps(5, 6)})
		info, _ := packet.Host(back)
		val, _, ok := info.TCP.Stamp()
		_, hidden := cookie.Part(val)
		place, eSeek := cookie.Seek(c.Ring, f, hidden)
		if e != api.OK || !ok || eSeek != api.OK {
			t.Fatalf("Leave %d", e)
		}
		v, _ := c.Vip(0)
		if n, e := v.Tables.Find(place.Version, place.Slot); n != out.Backend || e != api.OK {
			t.Fatalf("the cookie leads to backend %d, not to %d", n, out.Backend)
		}
	}
	if len(shims) != 2 {
		t.Errorf("%d backends", len(shims))
	}
}
