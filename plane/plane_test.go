package plane_test

import (
	"bytes"
	"math/rand"
	"slices"
	"testing"

	"counterfoil/addr"
	"counterfoil/api"
	"counterfoil/cid"
	"counterfoil/codec"
	"counterfoil/config"
	"counterfoil/cookie"
	"counterfoil/follow"
	"counterfoil/hrw"
	"counterfoil/icmp"
	"counterfoil/ip4"
	"counterfoil/ip6"
	"counterfoil/load"
	"counterfoil/packet"
	"counterfoil/plane"
	"counterfoil/policy"
	"counterfoil/ring"
	"counterfoil/siphash"
	"counterfoil/stack"
	"counterfoil/table"
	"counterfoil/tcp"
	"counterfoil/tunnel"
	"counterfoil/turn"
	"counterfoil/udp"
)

var (
	key     = siphash.Of(1, 2)
	set     = plane.Setting{Four: addr.V4(10, 0, 1, 1), Six: addr.V6(0, 1), Most: 1500}
	vip4    = addr.V4(192, 0, 2, 1)
	vip6    = addr.V6(0x20010db8, 1)
	client4 = addr.V4(198, 51, 100, 7)
	client6 = addr.V6(0x20010db8, 7)
	none    = [2]uint32{}
)

// The services of the test's state, by their numbers.
const (
	turns4 = iota
	draws6
	loads4
	quic4
	quic6
	empty
)

// address returns that of a backend: even numbers have one of IPv6.
func address(n int) api.Addr {
	if n%2 == 0 {
		return addr.V6(5, uint64(n))
	}
	return addr.V4(10, 0, 2, byte(n))
}

func members(l ...int) []config.Member {
	var m []config.Member
	for _, n := range l {
		m = append(m, config.Member{Backend: n, Weight: n})
	}
	return m
}

// state returns a state with backends 1 to 5 and all services; each but the last one has two tables.
func state(t *testing.T) *config.State {
	t.Helper()
	s := config.New(key)
	var ops []config.Op
	for n := 1; n <= 5; n++ {
		ops = append(ops, config.Op{Kind: config.AddBackend, Backend: n, Addr: address(n)})
	}
	for _, v := range []config.Op{
		{Addr: vip4, Port: 80, Proto: 6, Way: policy.Turns}, {Addr: vip6, Port: 80, Proto: 6, Way: policy.Draws}, {Addr: vip4, Port: 81, Proto: 6, Way: policy.Loads},
		{Addr: vip4, Port: 443, Proto: 17, Way: policy.Turns}, {Addr: vip6, Port: 443, Proto: 17, Way: policy.Turns}, {Addr: vip4, Port: 9, Proto: 6, Way: policy.Turns},
	} {
		v.Kind = config.AddVip
		ops = append(ops, v)
	}
	for vip := range empty {
		ops = append(ops, config.Op{Kind: config.SetMembers, Vip: vip, Members: members(1, 2)}, config.Op{Kind: config.SetMembers, Vip: vip, Members: members(2, 3, 4)})
	}
	apply(t, s, ops...)
	return s
}

func apply(t *testing.T, s *config.State, ops ...config.Op) {
	t.Helper()
	for _, o := range ops {
		if e := s.Apply(o); e != api.OK {
			t.Fatalf("Apply of %+v: %d", o, e)
		}
	}
}

// replica returns a replica that knows a state.
func replica(t *testing.T, s *config.State) *plane.Replica {
	t.Helper()
	p, e := plane.New(set)
	if e != api.OK {
		t.Fatalf("New: %d", e)
	}
	if e := p.Receive(follow.Message{Kind: follow.Whole, Num: s.Num, L: [][]byte{codec.State(s)}}); e != api.OK {
		t.Fatalf("Receive: %d", e)
	}
	return p
}

// in returns a packet from one address to another one, with a TTL of 9; of IPv4 it stays whole.
func in(src, dst api.Addr, proto uint8, load []byte) []byte {
	if dst.Six {
		b, _ := ip6.Packet(ip6.Header{Label: 77, Next: proto, Hops: 9, Src: src, Dst: dst}, load)
		return b
	}
	b, _ := ip4.Packet(ip4.Header{ID: 77, Stay: true, TTL: 9, Proto: proto, Src: src, Dst: dst}, load)
	return b
}

func client(dst api.Addr) api.Addr {
	if dst.Six {
		return client6
	}
	return client4
}

// flow returns that of the test's client to a service.
func flow(t *testing.T, s *config.State, vip int) api.Flow {
	t.Helper()
	v, ok := s.Vip(vip)
	if !ok {
		t.Fatalf("no service %d", vip)
	}
	return api.Flow{Src: client(v.Addr), Dst: v.Addr, SrcPort: 5000, DstPort: v.Port, Proto: v.Proto}
}

func stamps(val, echo uint32) []byte {
	b := []byte{1, 1, 8, 10}
	for _, n := range []uint32{val, echo} {
		b = append(b, byte(n>>24), byte(n>>16), byte(n>>8), byte(n))
	}
	return b
}

func segmentOf(f api.Flow, flags uint8, options []byte, size int) tcp.Segment {
	return tcp.Segment{SrcPort: f.SrcPort, DstPort: f.DstPort, Seq: 1, Flags: flags, Window: 5, Options: options, Load: make([]byte, size)}.Summed(f.Src, f.Dst)
}

func segment(f api.Flow, flags uint8, options []byte) []byte {
	return in(f.Src, f.Dst, 6, segmentOf(f, flags, options, 3).Bytes())
}

func datagram(f api.Flow, load []byte) []byte {
	return in(f.Src, f.Dst, 17, udp.Datagram{SrcPort: f.SrcPort, DstPort: f.DstPort, Load: load}.Summed(f.Src, f.Dst).Bytes())
}

// quote returns an ICMP message of a type that quotes a packet, from a router to the packet's sender.
func quote(kind uint8, b []byte, to api.Addr) []byte {
	m := icmp.Message{Type: kind, Code: 1, Load: b}
	if to.Six {
		from := addr.V6(99, 99)
		return in(from, to, 58, m.Summed(from, to).Bytes())
	}
	from := addr.V4(9, 9, 9, 9)
	return in(from, to, 1, m.Summed(from, to).Bytes())
}

// same compares results; nil and empty packets are alike.
func same(a, b plane.Out) bool {
	return a.Kind == b.Kind && a.Why == b.Why && a.Vip == b.Vip && a.Backend == b.Backend && a.To == b.To && bytes.Equal(a.Packet, b.Packet)
}

// forwarded returns the result of a packet that goes to a backend as it is, without what follows it.
func forwarded(t *testing.T, b []byte, vip, backend int) plane.Out {
	t.Helper()
	to := address(backend)
	w := tunnel.Way{Src: set.Four, Dst: to, TTL: 64}
	if to.Six {
		w.Src = set.Six
	}
	old, e := packet.Older(packet.Exact(b))
	if e != api.OK {
		t.Fatalf("Older: %d", e)
	}
	p, e := w.Wrap(old)
	if e != api.OK {
		t.Fatalf("Wrap: %d", e)
	}
	return plane.Out{Kind: plane.Forward, Vip: vip, Backend: backend, To: to, Packet: p}
}

// check processes a packet, and compares the result and the counts.
func check(t *testing.T, name string, p *plane.Replica, b []byte, draws [2]uint32, want plane.Out) {
	t.Helper()
	sent, told := p.Sent()
	dropped := p.Dropped(want.Why)
	before := bytes.Clone(b)
	got := p.Process(b, draws)
	if !same(got, want) {
		t.Errorf("%s: kind %d, %s, service %d, backend %d, to %+v, %x\nwant kind %d, %s, service %d, backend %d, to %+v, %x", name,
			got.Kind, packet.Name(got.Why), got.Vip, got.Backend, got.To, got.Packet, want.Kind, packet.Name(want.Why), want.Vip, want.Backend, want.To, want.Packet)
	}
	nowSent, nowTold := p.Sent()
	switch want.Kind {
	case plane.Forward:
		sent++
	case plane.Answer:
		told++
	default:
		dropped++
	}
	if nowSent != sent || nowTold != told || p.Dropped(want.Why) != dropped {
		t.Errorf("%s: counts %d %d %d, want %d %d %d", name, nowSent, nowTold, p.Dropped(want.Why), sent, told, dropped)
	}
	for i := range got.Packet {
		got.Packet[i]++
	}
	if !bytes.Equal(b, before) {
		t.Errorf("%s: the packet was changed", name)
	}
}

func drop(why packet.Reason) plane.Out {
	return plane.Out{Kind: plane.Drop, Why: why}
}

// P30.1: the bounds of a setting, and what a new replica has.
func TestNew(t *testing.T) {
	if plane.Drop != 0 || plane.Forward != 1 || plane.Answer != 2 {
		t.Error("kinds")
	}
	for name, x := range map[string]struct {
		change func(s *plane.Setting)
		ok     bool
	}{
		"as it is": {func(s *plane.Setting) {}, true}, "Most 576": {func(s *plane.Setting) { s.Most = 576 }, true}, "Most 575": {func(s *plane.Setting) { s.Most = 575 }, false},
		"Most 9000": {func(s *plane.Setting) { s.Most = 9000 }, true}, "Most 9001": {func(s *plane.Setting) { s.Most = 9001 }, false}, "Most -1": {func(s *plane.Setting) { s.Most = -1 }, false},
		"Four of IPv6": {func(s *plane.Setting) { s.Four = s.Six }, false}, "Six of IPv4": {func(s *plane.Setting) { s.Six = s.Four }, false}, "Four not valid": {func(s *plane.Setting) { s.Four.High = 1 }, false},
		"zero addresses": {func(s *plane.Setting) { s.Four, s.Six = api.Addr{}, addr.V6(0, 0) }, true},
	} {
		s := set
		x.change(&s)
		p, e := plane.New(s)
		if x.ok && (e != api.OK || p == nil) || !x.ok && (e != api.ErrArg || p != nil) {
			t.Errorf("%s: %d", name, e)
		}
		if !x.ok {
			continue
		}
		sent, told := p.Sent()
		if p.State() != nil || p.Known() != 0 || p.Book == nil || len(p.Book.All()) != 0 || sent != 0 || told != 0 {
			t.Errorf("%s: a new replica has something", name)
		}
		for r := packet.Reason(-2); r < 20; r++ {
			if p.Dropped(r) != 0 {
				t.Errorf("%s: dropped for %d", name, r)
			}
		}
	}
}

// P30.2: who is a candidate.
func TestCands(t *testing.T) {
	s := state(t)
	v, _ := s.Vip(turns4)
	book := load.New()
	book.Note(load.Report{Backend: 3, Num: 1, Load: 7, Well: true})
	want := []turn.Cand{{Slot: 1, Backend: 2, Weight: 2}, {Slot: 2, Backend: 3, Weight: 3, Load: 7}, {Slot: 3, Backend: 4, Weight: 4}}
	if got := plane.Cands(v, book); !slices.Equal(got, want) || !turn.Right(got) {
		t.Errorf("Cands %+v", got)
	}
	book.Note(load.Report{Backend: 3, Num: 2, Load: 8})
	if got := plane.Cands(v, book); !slices.Equal(got, []turn.Cand{want[0], want[2]}) {
		t.Errorf("without who is not well: %+v", got)
	}
	apply(t, s, config.Op{Kind: config.Evict, Backend: 4})
	v, _ = s.Vip(turns4)
	if got := plane.Cands(v, book); !slices.Equal(got, want[:1]) {
		t.Errorf("without who is evicted: %+v", got)
	}
	m := members(2, 3, 4, 5)
	m[0].Weight = 0
	apply(t, s, config.Op{Kind: config.SetMembers, Vip: turns4, Members: m}, config.Op{Kind: config.Admit, Backend: 4})
	v, _ = s.Vip(turns4)
	if got := plane.Cands(v, nil); !slices.Equal(got, []turn.Cand{{Slot: 2, Backend: 3, Weight: 3}, {Slot: 3, Backend: 4, Weight: 4}, {Slot: 4, Backend: 5, Weight: 5}}) {
		t.Errorf("without who weighs nothing: %+v", got)
	}
	apply(t, s, config.Op{Kind: config.SetMembers, Vip: turns4, Members: members(1)})
	v, _ = s.Vip(turns4)
	if got := plane.Cands(v, nil); !slices.Equal(got, []turn.Cand{{Slot: 0, Backend: 1, Weight: 1}}) {
		t.Errorf("the first backend, with the least weight: %+v", got)
	}
	v, _ = s.Vip(empty)
	if got := plane.Cands(v, book); len(got) != 0 || len(plane.Cands(config.Vip{}, book)) != 0 {
		t.Errorf("without tables: %+v", got)
	}
}

// P30.2: Spread is rendezvous hashing with a fixed key.
func TestSpread(t *testing.T) {
	var fixed siphash.Key
	copy(fixed[:], "counterfoil-fixed")
	l := []turn.Cand{{Slot: 9, Backend: 2, Weight: 5}, {Slot: 1, Backend: 7, Weight: 1, Load: 99}, {Slot: 3, Backend: 8, Weight: 3}, {Slot: 4, Backend: 9, Weight: 0}}
	seen := map[int]int{}
	for i := range 300 {
		b := []byte{byte(i), byte(i >> 8), 3}
		want, _ := hrw.Pick(fixed, []hrw.Member{{ID: 2, Weight: 5}, {ID: 7, Weight: 1}, {ID: 8, Weight: 3}}, b)
		if got, ok := plane.Spread(l, b); got != want || !ok {
			t.Errorf("Spread %d %v, want %d", got, ok, want)
		}
		seen[want]++
	}
	if len(seen) != 3 {
		t.Errorf("chosen: %v", seen)
	}
	if n, ok := plane.Spread(nil, []byte{1}); n != 0 || ok {
		t.Error("Spread of none")
	}
	if n, ok := plane.Spread(l[3:], []byte{1}); n != 0 || ok {
		t.Error("Spread of nobody")
	}
}

// P30.2: Mark needs a First segment with timestamps.
func TestMark(t *testing.T) {
	for flags := range 64 {
		s := tcp.Segment{Flags: uint8(flags), Options: stamps(1, 0xabcd1234)}
		c, ok := plane.Mark(s)
		if ok != s.First() || ok && c != 0x1234 || !ok && c != 0 {
			t.Errorf("flags %x: %x %v", flags, c, ok)
		}
		s.Options = nil
		if c, ok := plane.Mark(s); ok || c != 0 {
			t.Errorf("flags %x without timestamps: %x", flags, c)
		}
	}
}

// P30.3: the reasons of packet.Read, and then NoTable.
func TestNoState(t *testing.T) {
	s := state(t)
	f := flow(t, s, turns4)
	good := segment(f, tcp.SYN, stamps(1, 0))
	bad := bytes.Clone(good)
	bad[len(bad)-1]++
	expired, _ := ip4.Packet(ip4.Header{TTL: 1, Proto: 6, Src: f.Src, Dst: f.Dst}, segmentOf(f, tcp.SYN, stamps(1, 0), 3).Bytes())
	p, _ := plane.New(set)
	full := replica(t, s)
	for name, x := range map[string]struct {
		b   []byte
		why packet.Reason
	}{"nothing": {nil, packet.Short}, "junk": {[]byte{1, 2, 3}, packet.Malformed}, "wrong sum": {bad, packet.BadSum}, "expired": {expired, packet.Expired}, "no protocol": {in(f.Src, f.Dst, 99, nil), packet.NoProto}} {
		check(t, name, p, x.b, none, drop(x.why))
		check(t, name, full, x.b, none, drop(x.why))
	}
	check(t, "example 1", p, good, none, drop(packet.NoTable))
	other := f
	other.DstPort = 7
	check(t, "no service", p, segment(other, tcp.SYN, nil), none, drop(packet.NoTable))
	check(t, "an echo", p, quote(8, nil, f.Dst), none, drop(packet.NoTable))
}

// P30.3: NoService, NoTable and NoBackend.
func TestNoService(t *testing.T) {
	s := state(t)
	p := replica(t, s)
	f := flow(t, s, turns4)
	for _, change := range []func(f *api.Flow){func(f *api.Flow) { f.DstPort = 7 }, func(f *api.Flow) { f.DstPort = 443 }, func(f *api.Flow) { f.Dst = addr.V4(192, 0, 2, 2) }} {
		g := f
		change(&g)
		check(t, "no service", p, segment(g, tcp.SYN, stamps(1, 0)), none, drop(packet.NoService))
		check(t, "no service", p, segment(g, tcp.ACK, nil), none, drop(packet.NoService))
	}
	check(t, "UDP to a service of TCP", p, datagram(f, []byte{0x40}), none, drop(packet.NoService))
	g := flow(t, s, empty)
	for _, flags := range []uint8{tcp.SYN, tcp.ACK} {
		check(t, "no tables", p, segment(g, flags, stamps(1, 0)), none, drop(packet.NoTable))
		check(t, "no tables", p, segment(g, flags, nil), none, drop(packet.NoTable))
	}
	for n := 2; n <= 4; n++ {
		p.Book.Note(load.Report{Backend: n, Num: 1})
	}
	check(t, "nobody is well", p, segment(f, tcp.SYN, stamps(1, 0)), none, drop(packet.NoBackend))
	check(t, "nobody is well", p, segment(f, tcp.SYN, nil), none, drop(packet.NoBackend))
	long := append([]byte{0xc0, 0, 0, 0, 1, 2, 7, 8, 0}, make([]byte, 20)...)
	check(t, "nobody is well", p, datagram(flow(t, s, quic4), long), none, drop(packet.NoBackend))
}

// opened returns the result of a segment that opens a connection, for a chosen slot of the newest version.
func opened(t *testing.T, s *config.State, f api.Flow, vip int, b []byte, c turn.Cand) plane.Out {
	t.Helper()
	v, _ := s.Vip(vip)
	version, _, _ := v.Tables.Newest()
	hidden, e := cookie.Hide(s.Ring, f, cookie.Place{Version: version, Slot: c.Slot})
	if e != api.OK {
		t.Fatalf("Hide: %d", e)
	}
	x, _ := packet.Read(b)
	marked, e := packet.WithTCP(b, x.TCP.WithEcho(uint32(hidden)))
	if e != api.OK {
		t.Fatalf("WithTCP: %d", e)
	}
	return forwarded(t, marked, vip, c.Backend)
}

// P30.3: segments that open connections go where the service's policy says, and carry the cookie.
func TestOpen(t *testing.T) {
	s := state(t)
	apply(t, s, config.Op{Kind: config.Rotate})
	p := replica(t, s)
	rnd := rand.New(rand.NewSource(1))
	choosers := make([]policy.Chooser, 6)
	for i := range 300 {
		vip := rnd.Intn(3)
		f := flow(t, s, vip)
		f.SrcPort = uint16(rnd.Uint32())
		p.Book.Note(load.Report{Backend: 2 + rnd.Intn(3), Num: uint64(i), Load: uint32(rnd.Intn(4)), Well: rnd.Intn(5) > 0})
		draws := [2]uint32{rnd.Uint32(), rnd.Uint32()}
		flags := []uint8{tcp.SYN, tcp.SYN | tcp.PSH, tcp.SYN | tcp.URG | 0xc0}[rnd.Intn(3)]
		b := segment(f, flags, stamps(rnd.Uint32(), rnd.Uint32()))
		v, _ := s.Vip(vip)
		cands := plane.Cands(v, p.Book)
		c, ok := choosers[vip].Choose(v.Way, cands, draws[0], draws[1])
		if !ok {
			check(t, "nobody", p, b, draws, drop(packet.NoBackend))
			continue
		}
		check(t, "open", p, append(b, 1, 2, 3), draws, opened(t, s, f, vip, b, c))
	}
}

// P30.3: segments without timestamps go by Spread.
func TestWithoutStamps(t *testing.T) {
	s := state(t)
	p := replica(t, s)
	seen := map[int]int{}
	for i := range 100 {
		vip := i % 3
		f := flow(t, s, vip)
		f.SrcPort = uint16(i * 7)
		v, _ := s.Vip(vip)
		want, _ := plane.Spread(plane.Cands(v, p.Book), addr.Key(f))
		b := segment(f, []uint8{tcp.SYN, tcp.ACK, tcp.SYN | tcp.ACK, tcp.RST, 0}[i%5], [][]byte{nil, {1, 1, 1, 0}}[i%2])
		check(t, "no timestamps", p, append(b, 9), none, forwarded(t, b, vip, want))
		seen[want]++
	}
	if len(seen) != 3 {
		t.Errorf("chosen: %v", seen)
	}
}

// P30.3: other segments with timestamps go by the cookie that they echo.
func TestByCookie(t *testing.T) {
	s := state(t)
	apply(t, s, config.Op{Kind: config.Evict, Backend: 4})
	p := replica(t, s)
	for vip := range 3 {
		f := flow(t, s, vip)
		for _, x := range []struct {
			place   cookie.Place
			backend int
			why     packet.Reason
		}{
			{cookie.Place{Version: 0, Slot: 0}, 1, packet.Fine}, {cookie.Place{Version: 0, Slot: 1}, 2, packet.Fine}, {cookie.Place{Version: 1, Slot: 1}, 2, packet.Fine}, {cookie.Place{Version: 1, Slot: 2}, 3, packet.Fine},
			{cookie.Place{Version: 1, Slot: 0}, 0, packet.NoSlot}, {cookie.Place{Version: 0, Slot: 2}, 0, packet.NoSlot}, {cookie.Place{Version: 1, Slot: 4095}, 0, packet.NoSlot}, {cookie.Place{Version: 1, Slot: 3}, 0, packet.Evicted},
			{cookie.Place{Version: 2, Slot: 1}, 0, packet.NoVersion}, {cookie.Place{Version: 7, Slot: 0}, 0, packet.NoVersion},
		} {
			c, _ := cookie.Hide(s.Ring, f, x.place)
			for _, flags := range []uint8{tcp.ACK, tcp.ACK | tcp.SYN, tcp.RST, 0, tcp.SYN | tcp.FIN} {
				b := segment(f, flags, stamps(77, 0xfedc0000|uint32(c)))
				want := drop(x.why)
				if x.why == packet.Fine {
					want = forwarded(t, b, vip, x.backend)
				}
				check(t, "cookie", p, append(b, 9), none, want)
			}
		}
		c, _ := cookie.Hide(ring.New(key, 1), f, cookie.Place{Version: 1, Slot: 1})
		check(t, "a later epoch", p, segment(f, tcp.ACK, stamps(77, uint32(c))), none, drop(packet.NoKey))
	}
}

// P30.3: cookies of the previous epoch still lead to their backends, wherever the newest table has them.
func TestByCookieLater(t *testing.T) {
	s := state(t)
	f := flow(t, s, turns4)
	c, _ := cookie.Hide(s.Ring, f, cookie.Place{Version: 0, Slot: 0})
	apply(t, s, config.Op{Kind: config.Rotate}, config.Op{Kind: config.SetMembers, Vip: turns4, Members: members(5)})
	p := replica(t, s)
	p.Book.Note(load.Report{Backend: 1, Num: 1})
	b := segment(f, tcp.ACK, stamps(1, uint32(c)))
	check(t, "the next epoch", p, b, none, forwarded(t, b, turns4, 1))
}

// P30.3: QUIC packets go by their connection IDs.
func TestQuic(t *testing.T) {
	s := state(t)
	apply(t, s, config.Op{Kind: config.Evict, Backend: 4})
	p := replica(t, s)
	for _, vip := range []int{quic4, quic6} {
		f := flow(t, s, vip)
		v, _ := s.Vip(vip)
		id := func(r ring.Ring, version, slot int) []byte {
			b, _ := cid.Make(r, cookie.Place{Version: version, Slot: slot}, 7)
			return b
		}
		short := func(id []byte) []byte { return append(append([]byte{0x40}, id...), 5, 5, 5) }
		long := func(id []byte) []byte {
			return append(append([]byte{0xc0, 0, 0, 0, 1, byte(len(id))}, id...), 0, 5, 5)
		}
		spread := func(id []byte) plane.Out {
			n, _ := plane.Spread(plane.Cands(v, p.Book), id)
			return forwarded(t, datagram(f, long(id)), vip, n)
		}
		wrong := id(s.Ring, 1, 2)
		wrong[11]++
		for name, x := range map[string]struct {
			load []byte
			want plane.Out
		}{
			"nothing": {nil, drop(packet.Short)}, "no QUIC": {[]byte{0}, drop(packet.Malformed)}, "short, cut": {short(id(s.Ring, 1, 2))[:12], drop(packet.Short)},
			"long, cut": {[]byte{0xc0, 0, 0, 0, 1}, drop(packet.Short)}, "long, malformed": {[]byte{0xc0, 0, 0, 0, 1, 21}, drop(packet.Malformed)},
			"short": {short(id(s.Ring, 1, 2)), forwarded(t, datagram(f, short(id(s.Ring, 1, 2))), vip, 3)}, "long": {long(id(s.Ring, 0, 0)), forwarded(t, datagram(f, long(id(s.Ring, 0, 0))), vip, 1)},
			"no such slot": {short(id(s.Ring, 1, 0)), drop(packet.NoSlot)}, "no such version": {long(id(s.Ring, 5, 0)), drop(packet.NoVersion)}, "evicted": {long(id(s.Ring, 1, 3)), drop(packet.Evicted)},
			"short, foreign": {short(wrong), drop(packet.NoKey)}, "short, later epoch": {short(id(ring.New(key, 1), 1, 2)), drop(packet.NoKey)},
			"long, foreign": {long(wrong), spread(wrong)}, "long, other length": {long([]byte{1, 2, 3}), spread([]byte{1, 2, 3})}, "long, no ID": {long(nil), spread(nil)},
			"long, later epoch": {long(id(ring.New(key, 1), 1, 2)), spread(id(ring.New(key, 1), 1, 2))},
		} {
			check(t, name, p, append(datagram(f, x.load), 9), none, x.want)
		}
	}
}

// P30.3: ICMP errors go to the backend of the connection whose packet they quote.
func TestICMP(t *testing.T) {
	s := state(t)
	apply(t, s, config.Op{Kind: config.Evict, Backend: 4})
	p := replica(t, s)
	for _, vip := range []int{turns4, draws6} {
		f := flow(t, s, vip)
		back := addr.Back(f)
		six := f.Dst.Six
		kind := uint8(3)
		if six {
			kind = 1
		}
		v, _ := s.Vip(vip)
		c, _ := cookie.Hide(s.Ring, f, cookie.Place{Version: 1, Slot: 2})
		dead, _ := cookie.Hide(s.Ring, f, cookie.Place{Version: 1, Slot: 3})
		stamped := segment(back, tcp.ACK, stamps(0xabcd0000|uint32(c), 5))
		n, _ := plane.Spread(plane.Cands(v, p.Book), addr.Key(f))
		other := back
		other.SrcPort = 7
		bare := back
		bare.SrcPort = 9
		stranger := back
		stranger.Src = addr.V4(192, 0, 2, 2)
		if six {
			stranger.Src = addr.V6(1, 1)
		}
		cut := stamped[:len(stamped)-20]
		for name, x := range map[string]struct {
			b    []byte
			want plane.Out
		}{
			"stamped": {quote(kind, stamped, f.Dst), forwarded(t, quote(kind, stamped, f.Dst), vip, 3)}, "evicted": {quote(kind, segment(back, tcp.ACK, stamps(uint32(dead), 5)), f.Dst), drop(packet.Evicted)},
			"no key": {quote(kind, segment(back, tcp.ACK, stamps(uint32(c)^0x8000, 5)), f.Dst), drop(packet.NoKey)}, "no stamps": {quote(kind, segment(back, tcp.ACK, nil), f.Dst), forwarded(t, quote(kind, segment(back, tcp.ACK, nil), f.Dst), vip, n)},
			"stamps cut off": {quote(kind, cut, f.Dst), forwarded(t, quote(kind, cut, f.Dst), vip, n)}, "no error": {quote(8, stamped, f.Dst), drop(packet.Stranger)}, "nothing quoted": {quote(kind, nil, f.Dst), drop(packet.Stranger)},
			"no flow quoted": {quote(kind, stamped[:27], f.Dst), drop(packet.Stranger)}, "sent by somebody else": {quote(kind, segment(stranger, tcp.ACK, nil), f.Dst), drop(packet.Stranger)},
			"no service": {quote(kind, segment(other, tcp.ACK, nil), f.Dst), drop(packet.NoService)},
		} {
			check(t, name, p, append(x.b, 9), none, x.want)
		}
		if !six {
			check(t, "no tables", p, quote(kind, segment(bare, tcp.ACK, nil), f.Dst), none, drop(packet.NoTable))
			check(t, "another type", p, quote(11, stamped, f.Dst), none, forwarded(t, quote(11, stamped, f.Dst), vip, 3))
			check(t, "a type of ICMPv6", p, quote(1, stamped, f.Dst), none, drop(packet.Stranger))
		}
	}
	for _, vip := range []int{quic4, quic6} {
		f := flow(t, s, vip)
		b := datagram(addr.Back(f), stamps(1, 2))
		check(t, "UDP quoted", p, quote(3, b, f.Dst), none, drop(packet.Stranger))
		g := addr.Back(f)
		g.SrcPort = 7
		check(t, "UDP quoted, no service", p, quote(3, datagram(g, nil), f.Dst), none, drop(packet.NoService))
	}
	for n := 2; n <= 4; n++ {
		p.Book.Note(load.Report{Backend: n, Num: 1})
	}
	f := flow(t, s, turns4)
	check(t, "nobody is well", p, quote(3, segment(addr.Back(f), tcp.ACK, nil), f.Dst), none, drop(packet.NoBackend))
}

// P30.4: a backend whose address is not known.
func TestUnknownAddress(t *testing.T) {
	s := config.New(key)
	apply(t, s, config.Op{Kind: config.AddBackend, Backend: 1, Addr: address(1)}, config.Op{Kind: config.AddVip, Addr: vip4, Port: 80, Proto: 6, Way: policy.Turns})
	tables := &stack.Stack{}
	tables.Push(table.Table{}.Next(9, 1))
	if e := s.Restore(members(1), tables); e != api.OK {
		t.Fatalf("Restore: %d", e)
	}
	p := replica(t, s)
	f := flow(t, s, 0)
	for slot, want := range []int{0, 1} {
		c, _ := cookie.Hide(s.Ring, f, cookie.Place{Version: 0, Slot: slot})
		b := segment(f, tcp.ACK, stamps(1, uint32(c)))
		if want == 0 {
			check(t, "unknown", p, b, none, drop(packet.NoBackend))
		} else {
			check(t, "known", p, b, none, forwarded(t, b, 0, want))
		}
	}
}

// tooBig returns the answer to a packet that is longer than most bytes.
func tooBig(f api.Flow, b []byte, most int) plane.Out {
	m := icmp.TooBig(b, uint16(most), f.Dst.Six).Summed(f.Dst, f.Src)
	var p []byte
	if f.Dst.Six {
		p, _ = ip6.Packet(ip6.Header{Next: 58, Hops: 64, Src: f.Dst, Dst: f.Src}, m.Bytes())
	} else {
		p, _ = ip4.Packet(ip4.Header{TTL: 64, Proto: 1, Src: f.Dst, Dst: f.Src}, m.Bytes())
	}
	return plane.Out{Kind: plane.Answer, Why: packet.TooBig, To: f.Src, Packet: p}
}

// P30.4: packets that are longer than Most minus the cost of the tunnel.
func TestTooBig(t *testing.T) {
	s := state(t)
	p := replica(t, s)
	for _, vip := range []int{turns4, draws6} {
		f := flow(t, s, vip)
		head := 20 + 32
		if f.Dst.Six {
			head = 40 + 32
		}
		for slot, backend := range map[int]int{1: 2, 2: 3} {
			cost := 20
			if address(backend).Six {
				cost = 40
			}
			c, _ := cookie.Hide(s.Ring, f, cookie.Place{Version: 1, Slot: slot})
			for size := 1500 - cost - head - 2; size < 1500-cost-head+3; size++ {
				load := segmentOf(f, tcp.ACK, stamps(1, uint32(c)), size).Bytes()
				b := in(f.Src, f.Dst, 6, load)
				fits := len(b) <= 1500-cost
				want := tooBig(f, b, 1500-cost)
				if fits {
					want = forwarded(t, b, vip, backend)
				}
				check(t, "stays", p, append(b, 7, 7, 7), none, want)
				if f.Dst.Six {
					continue
				}
				b, _ = ip4.Packet(ip4.Header{TTL: 9, Proto: 6, Src: f.Src, Dst: f.Dst}, load)
				want = drop(packet.TooBig)
				if fits {
					want = forwarded(t, b, vip, backend)
				}
				check(t, "may be fragmented", p, append(b, 7, 7, 7), none, want)
			}
		}
	}
}

// P30.4: an answer quotes the packet as it arrived, and the choice of the Chooser takes effect.
func TestTooBigOpens(t *testing.T) {
	s := state(t)
	p := replica(t, s)
	f := flow(t, s, turns4)
	b := in(f.Src, f.Dst, 6, segmentOf(f, tcp.SYN, stamps(1, 0), 1450).Bytes())
	check(t, "backend 2", p, append(b, 7), none, tooBig(f, b, 1460))
	check(t, "backend 3", p, append(b, 7), none, tooBig(f, b, 1480))
	small := segment(f, tcp.SYN, stamps(1, 0))
	check(t, "backend 4", p, small, none, opened(t, s, f, turns4, small, turn.Cand{Slot: 3, Backend: 4}))
}

// P30.4: ICMP errors are never answered.
func TestTooBigICMP(t *testing.T) {
	s := state(t)
	p := replica(t, s)
	for _, vip := range []int{turns4, draws6} {
		f := flow(t, s, vip)
		c, _ := cookie.Hide(s.Ring, f, cookie.Place{Version: 1, Slot: 2})
		quoted := in(f.Dst, f.Src, 6, segmentOf(addr.Back(f), tcp.ACK, stamps(uint32(c), 1), 1450).Bytes())
		check(t, "ICMP", p, quote(3, quoted, f.Dst), none, drop(packet.TooBig))
		check(t, "ICMP that fits", p, quote(3, quoted[:1400], f.Dst), none, forwarded(t, quote(3, quoted[:1400], f.Dst), vip, 3))
	}
}

// P30.1: Restart resets everything but the setting.
func TestRestart(t *testing.T) {
	s := state(t)
	p := replica(t, s)
	f := flow(t, s, turns4)
	b := segment(f, tcp.SYN, stamps(1, 0))
	v, _ := s.Vip(turns4)
	cands := plane.Cands(v, nil)
	check(t, "before", p, b, none, opened(t, s, f, turns4, b, cands[0]))
	check(t, "before", p, in(f.Src, f.Dst, 6, segmentOf(f, tcp.SYN, stamps(1, 0), 1460).Bytes()), none, tooBig(f, in(f.Src, f.Dst, 6, segmentOf(f, tcp.SYN, stamps(1, 0), 1460).Bytes()), 1480))
	check(t, "before", p, nil, none, drop(packet.Short))
	p.Book.Note(load.Report{Backend: 2, Num: 5})
	book := p.Book
	p.Restart()
	sent, told := p.Sent()
	if p.State() != nil || p.Known() != 0 || sent != 0 || told != 0 || p.Dropped(packet.Short) != 0 || p.Book == nil || p.Book == book || len(p.Book.All()) != 0 || len(book.All()) != 1 {
		t.Error("after Restart")
	}
	check(t, "no state", p, b, none, drop(packet.NoTable))
	p.Receive(follow.Message{Kind: follow.Whole, Num: s.Num, L: [][]byte{codec.State(s)}})
	check(t, "turns begin anew", p, b, none, opened(t, s, f, turns4, b, cands[0]))
	check(t, "the setting stays", p, append(segment(f, tcp.ACK, stamps(1, 0x8000)), 1), none, drop(packet.NoKey))
}

// A nil replica and a zero one drop every packet for NoTable and count nothing.
func TestNil(t *testing.T) {
	s := state(t)
	b := segment(flow(t, s, turns4), tcp.SYN, stamps(1, 0))
	var nobody *plane.Replica
	nobody.Restart()
	zero := &plane.Replica{}
	zero.Receive(follow.Message{Kind: follow.Whole, Num: s.Num, L: [][]byte{codec.State(s)}})
	for _, p := range []*plane.Replica{nobody, zero} {
		for _, x := range [][]byte{nil, b, {1}} {
			if got := p.Process(x, none); !same(got, drop(packet.NoTable)) {
				t.Errorf("%+v", got)
			}
		}
		sent, told := p.Sent()
		if sent != 0 || told != 0 || p.Dropped(packet.NoTable) != 0 || p.Dropped(packet.Short) != 0 {
			t.Error("counts")
		}
	}
}

// P30.1: Dropped of what is no reason.
func TestDropped(t *testing.T) {
	p, _ := plane.New(set)
	p.Process(nil, none)
	p.Process(nil, none)
	for r := packet.Reason(-3); r < 30; r++ {
		want := uint64(0)
		if r == packet.Short {
			want = 2
		}
		if got := p.Dropped(r); got != want {
			t.Errorf("Dropped(%d) = %d", r, got)
		}
	}
}

// P30.5: whatever arrives, a packet is forwarded only to a backend that is present in a table of the service and not evicted.
func TestForwardedOnly(t *testing.T) {
	rnd := rand.New(rand.NewSource(2))
	count := map[int]int{}
	for range 40 {
		s := state(t)
		apply(t, s, config.Op{Kind: config.Evict, Backend: 1 + rnd.Intn(5)}, config.Op{Kind: config.SetMembers, Vip: rnd.Intn(5), Members: members(1+rnd.Intn(2), 3+rnd.Intn(3))})
		s.Apply(config.Op{Kind: config.Retire, Vip: rnd.Intn(5), Version: rnd.Intn(2)})
		p := replica(t, s)
		for range 100 {
			vip := rnd.Intn(6)
			f := flow(t, s, vip)
			c, _ := cookie.Hide(s.Ring, f, cookie.Place{Version: rnd.Intn(4), Slot: rnd.Intn(6)})
			b := segment(f, uint8(rnd.Intn(64)), stamps(1, uint32(c)))
			if f.Proto == 17 {
				id, _ := cid.Make(s.Ring, cookie.Of(uint16(rnd.Intn(4)<<12+rnd.Intn(6))), 5)
				b = datagram(f, append([]byte{0x40}, id...))
			}
			if rnd.Intn(4) == 0 {
				b[rnd.Intn(len(b))]++
			}
			out := p.Process(b, [2]uint32{rnd.Uint32(), rnd.Uint32()})
			count[out.Kind]++
			if out.Kind != plane.Forward {
				continue
			}
			v, _ := s.Vip(out.Vip)
			present := false
			for _, n := range v.Tables.Versions() {
				x, _ := v.Tables.Get(n)
				_, e := x.Slot(out.Backend)
				present = present || e == api.OK
			}
			if !present || v.Tables.Evicted(out.Backend) {
				t.Fatalf("forwarded to backend %d of service %d", out.Backend, out.Vip)
			}
		}
	}
	if count[plane.Forward] < 100 || count[plane.Drop] < 100 {
		t.Errorf("results: %v", count)
	}
}
