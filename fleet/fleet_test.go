package fleet_test

import (
	"bytes"
	"math/rand"
	"reflect"
	"testing"

	"counterfoil/addr"
	"counterfoil/api"
	"counterfoil/cid"
	"counterfoil/codec"
	"counterfoil/config"
	"counterfoil/cookie"
	"counterfoil/fleet"
	"counterfoil/load"
	"counterfoil/packet"
	"counterfoil/plane"
	"counterfoil/policy"
	"counterfoil/ring"
	"counterfoil/siphash"
	"counterfoil/tcp"
	"counterfoil/udp"
)

var (
	key  = siphash.Of(0, 1)
	vip4 = addr.V4(192, 0, 2, 1)
	tcp4 = api.Flow{Src: addr.V4(198, 51, 100, 7), Dst: vip4, SrcPort: 5000, DstPort: 80, Proto: 6}
	udp4 = api.Flow{Src: addr.V4(198, 51, 100, 8), Dst: vip4, SrcPort: 5001, DstPort: 443, Proto: 17}
)

func setting() fleet.Setting {
	return fleet.Setting{Key: key, Replicas: 2, Backends: 3, Flows: []api.Flow{tcp4, udp4}, Most: 1500, Conns: 16, Disk: 65536, Mail: 64}
}

func newFleet(t *testing.T, s fleet.Setting) *fleet.Fleet {
	t.Helper()
	x, e := fleet.New(s)
	if e != api.OK {
		t.Fatalf("New: %d", e)
	}
	return x
}

func same(a, b fleet.Event) bool {
	return a.Errno == b.Errno && a.Kind == b.Kind && a.Why == b.Why && a.Backend == b.Backend && bytes.Equal(a.Load, b.Load)
}

// do executes a step, and compares its event.
func do(t *testing.T, name string, x *fleet.Fleet, s fleet.Step, want fleet.Event) {
	t.Helper()
	if got := x.Do(s); !same(got, want) {
		t.Errorf("%s: %+v, want %+v", name, got, want)
	}
}

func failed(e api.Errno) fleet.Event {
	return fleet.Event{Errno: e}
}

func backend(n int) config.Op {
	return config.Op{Kind: config.AddBackend, Backend: n, Addr: addr.V4(10, 0, 2, byte(n))}
}

func members(vip int, l ...int) config.Op {
	o := config.Op{Kind: config.SetMembers, Vip: vip}
	for _, n := range l {
		o.Members = append(o.Members, config.Member{Backend: n, Weight: 1})
	}
	return o
}

// ops make services of TCP and UDP with the backends 1 to 3.
var ops = []config.Op{
	backend(1), backend(2), backend(3), {Kind: config.AddVip, Addr: vip4, Port: 80, Proto: 6, Way: policy.Turns}, {Kind: config.AddVip, Addr: vip4, Port: 443, Proto: 17, Way: policy.Turns},
	members(0, 1, 2, 3), members(1, 1, 2, 3),
}

// ready returns a fleet whose nodes all know the operations above.
func ready(t *testing.T, s fleet.Setting) *fleet.Fleet {
	t.Helper()
	x := newFleet(t, s)
	issue(t, x, ops...)
	x.Settle(1)
	return x
}

// issue issues operations, and commits them.
func issue(t *testing.T, x *fleet.Fleet, l ...config.Op) {
	t.Helper()
	for _, o := range l {
		do(t, "issue", x, fleet.Step{Kind: fleet.Issue, Op: o}, fleet.Event{})
	}
	do(t, "commit", x, fleet.Step{Kind: fleet.Commit}, fleet.Event{})
}

// P35.1: the bounds of settings.
func TestRight(t *testing.T) {
	mixed, wrong, icmp := tcp4, tcp4, tcp4
	mixed.Dst = addr.V6(1, 1)
	wrong.Src.High, icmp.Proto = 1, 1
	six := api.Flow{Src: addr.V6(1, 1), Dst: addr.V6(1, 2), Proto: 17}
	flows := func(l ...api.Flow) func(s *fleet.Setting) { return func(s *fleet.Setting) { s.Flows = l } }
	for name, x := range map[string]struct {
		change func(s *fleet.Setting)
		want   bool
	}{
		"as it is": {func(s *fleet.Setting) {}, true}, "one of each": {func(s *fleet.Setting) { s.Replicas, s.Backends = 1, 1 }, true}, "no replica": {func(s *fleet.Setting) { s.Replicas = 0 }, false},
		"no backend": {func(s *fleet.Setting) { s.Backends = 0 }, false}, "replicas below 0": {func(s *fleet.Setting) { s.Replicas = -1 }, false}, "backends below 0": {func(s *fleet.Setting) { s.Backends = -1 << 63 }, false},
		"16 nodes": {func(s *fleet.Setting) { s.Replicas, s.Backends = 1, 15 }, true}, "16 nodes, turned": {func(s *fleet.Setting) { s.Replicas, s.Backends = 15, 1 }, true}, "17 nodes": {func(s *fleet.Setting) { s.Replicas, s.Backends = 1, 16 }, false},
		"17 nodes, turned": {func(s *fleet.Setting) { s.Replicas, s.Backends = 16, 1 }, false}, "nodes that wrap": {func(s *fleet.Setting) { s.Replicas, s.Backends = 1<<62, 1<<62+1<<61 }, false},
		"Most 576": {func(s *fleet.Setting) { s.Most = 576 }, true}, "Most 575": {func(s *fleet.Setting) { s.Most = 575 }, false}, "Most 9000": {func(s *fleet.Setting) { s.Most = 9000 }, true}, "Most 9001": {func(s *fleet.Setting) { s.Most = 9001 }, false},
		"Conns 1": {func(s *fleet.Setting) { s.Conns = 1 }, true}, "Conns 0": {func(s *fleet.Setting) { s.Conns = 0 }, false}, "Conns 1024": {func(s *fleet.Setting) { s.Conns = 1024 }, true}, "Conns 1025": {func(s *fleet.Setting) { s.Conns = 1025 }, false},
		"no flows": {flows(), true}, "two families": {flows(tcp4, mixed), false}, "address not valid": {flows(wrong), false}, "ICMP": {flows(tcp4, icmp), false}, "IPv6": {flows(six, six), true},
		"1024 flows": {func(s *fleet.Setting) { s.Flows = copies(1024) }, true}, "1025 flows": {func(s *fleet.Setting) { s.Flows = copies(1025) }, false},
		"disk and mail below 0": {func(s *fleet.Setting) { s.Disk, s.Mail = -1, -1 }, true},
	} {
		s := setting()
		x.change(&s)
		f, e := fleet.New(s)
		if fleet.Right(s) != x.want || x.want && (e != api.OK || f == nil) || !x.want && (e != api.ErrArg || f != nil) {
			t.Errorf("%s: Right %v, New %d", name, fleet.Right(s), e)
		}
	}
}

// copies returns n equal flows.
func copies(n int) []api.Flow {
	var l []api.Flow
	for range n {
		l = append(l, tcp4)
	}
	return l
}

// P35.1, P35.2: what a new fleet consists of.
func TestNew(t *testing.T) {
	s := setting()
	x := newFleet(t, s)
	s.Flows[0].SrcPort = 1
	if x.Now() != 0 || x.Letters() != 0 || !bytes.Equal(codec.State(x.Controller().State()), codec.State(config.New(key))) {
		t.Error("a new fleet has something")
	}
	for n := -2; n < 6; n++ {
		if (x.Replica(n) != nil) != (n >= 0 && n < 2) || (x.Shim(n) != nil) != (n >= 0 && n < 3) || (x.Client(n) != nil) != (n >= 0 && n < 2) {
			t.Errorf("number %d", n)
		}
		if n >= 0 && n < 3 && (x.Shim(n).Backend() != n+1 || x.Shim(n).State() != nil) {
			t.Errorf("shim %d", n)
		}
	}
	if x.Client(0).Flow() != tcp4 || x.Client(1).Flow() != udp4 || x.Replica(0) == x.Replica(1) {
		t.Error("clients")
	}
	issue(t, x, ops...)
	if e := x.Controller().Ack(4, 7); e != api.OK {
		t.Errorf("node 4: %d", e)
	}
	if e := x.Controller().Ack(5, 7); e != api.ErrArg {
		t.Errorf("node 5: %d", e)
	}
	if _, e := fleet.New(fleet.Setting{}); e != api.ErrArg {
		t.Errorf("the zero setting: %d", e)
	}
}

// P35.1: the addresses of replicas, as packets show them, and the leases of shims.
func TestNodes(t *testing.T) {
	s := setting()
	s.Most, s.Conns = 600, 1
	x := ready(t, s)
	b, _ := x.Client(0).Send(tcp.SYN, nil)
	for n := range 2 {
		out := x.Replica(n).Process(b, [2]uint32{})
		if out.Kind != plane.Forward || !bytes.Equal(out.Packet[12:16], []byte{10, 0, 1, byte(n + 1)}) {
			t.Errorf("replica %d: %+v", n, out)
		}
	}
	big, _ := x.Client(0).Send(tcp.SYN, make([]byte, 600-20-52+1))
	if out := x.Replica(0).Process(big, [2]uint32{}); out.Kind != plane.Answer {
		t.Errorf("Most: %+v", out)
	}
	state := x.Controller().State()
	for n := range 3 {
		id, e := x.Shim(n).Issue(1)
		want, _ := cid.Make(state.Ring, cookie.Place{Version: 0, Slot: n}, uint64(n)<<20)
		if e != api.OK || !bytes.Equal(id, want) {
			t.Errorf("shim %d: %x %d, want %x", n, id, e, want)
		}
	}
	for i := range 1<<20 - 1 {
		if _, e := x.Shim(0).Issue(1); e != api.OK {
			t.Fatalf("number %d of the lease: %d", i+1, e)
		}
	}
	if _, e := x.Shim(0).Issue(1); e != api.ErrNone {
		t.Errorf("the lease has too many numbers: %d", e)
	}
	issue(t, x, config.Op{Kind: config.AddBackend, Backend: 1, Addr: addr.V6(7, 7)}, config.Op{Kind: config.AddBackend, Backend: 2, Addr: addr.V6(7, 8)}, config.Op{Kind: config.AddBackend, Backend: 3, Addr: addr.V6(7, 9)})
	x.Settle(1)
	for n := range 2 {
		out := x.Replica(n).Process(b, [2]uint32{})
		if out.Kind != plane.Forward || !bytes.Equal(out.Packet[8:24], addr.Bytes(addr.V6(0, uint64(n+1)))) {
			t.Errorf("replica %d: %+v", n, out)
		}
	}
	for i := range 2 {
		x.Client(0).Moves(tcp4.Src, uint16(6000+i))
		for range 3 {
			x.Do(fleet.Step{Kind: fleet.Send, Flags: tcp.SYN})
		}
	}
	for n := range 3 {
		if x.Shim(n).Conns() != 1 {
			t.Errorf("shim %d has %d connections", n, x.Shim(n).Conns())
		}
	}
}

// P35.3: Issue, Commit and Crash.
func TestIssueCommitCrash(t *testing.T) {
	x := newFleet(t, setting())
	do(t, "issue", x, fleet.Step{Kind: fleet.Issue, Op: backend(1)}, fleet.Event{})
	do(t, "issue", x, fleet.Step{Kind: fleet.Issue, Op: backend(0)}, failed(api.ErrArg))
	do(t, "issue", x, fleet.Step{Kind: fleet.Issue, Op: members(5)}, failed(api.ErrNone))
	check := func(name string, safe, issued int) {
		t.Helper()
		if s, i := x.Controller().Len(); s != safe || i != issued {
			t.Errorf("%s: %d %d, want %d %d", name, s, i, safe, issued)
		}
	}
	check("issued", 0, 1)
	do(t, "commit", x, fleet.Step{Kind: fleet.Commit}, fleet.Event{})
	check("committed", 1, 1)
	x.Do(fleet.Step{Kind: fleet.Issue, Op: backend(2)})
	x.Do(fleet.Step{Kind: fleet.Issue, Op: backend(3)})
	size := 14 + len(codec.Op(backend(2)))
	x.Controller().Ack(0, 1)
	do(t, "crash", x, fleet.Step{Kind: fleet.Crash, Who: size}, fleet.Event{})
	check("crashed", 2, 2)
	if x.Controller().Acked(0) != 0 {
		t.Error("acknowledgements survived")
	}
	x.Do(fleet.Step{Kind: fleet.Issue, Op: backend(3)})
	do(t, "crash with bits", x, fleet.Step{Kind: fleet.Crash, Who: size, Flags: 1}, fleet.Event{})
	check("crashed with bits", 2, 2)
	x.Do(fleet.Step{Kind: fleet.Issue, Op: backend(3)})
	do(t, "crash, nothing kept", x, fleet.Step{Kind: fleet.Crash, Who: -1}, fleet.Event{})
	check("crashed, nothing kept", 2, 2)
	x.Do(fleet.Step{Kind: fleet.Issue, Op: backend(3)})
	do(t, "crash, all kept", x, fleet.Step{Kind: fleet.Crash, Who: 1 << 40}, fleet.Event{})
	check("crashed, all kept", 3, 3)
	x.Do(fleet.Step{Kind: fleet.Commit})
	if e := x.Controller().Ack(4, 3); e != api.OK || x.Controller().Ack(5, 3) != api.ErrArg {
		t.Errorf("nodes after a crash: %d", e)
	}
	s := setting()
	s.Disk = 10
	do(t, "a full disk", newFleet(t, s), fleet.Step{Kind: fleet.Issue, Op: backend(1)}, failed(api.ErrFull))
}

// P35.3, example 1: Offer and Deliver, in both directions.
func TestOfferDeliver(t *testing.T) {
	x := newFleet(t, setting())
	offer := func(n int) fleet.Step { return fleet.Step{Kind: fleet.Offer, Who: n} }
	deliver := func(n int) fleet.Step { return fleet.Step{Kind: fleet.Deliver, Who: n} }
	do(t, "example 1", x, offer(0), failed(api.ErrNone))
	for _, n := range []int{-1, 5, 1 << 40} {
		do(t, "no such node", x, offer(n), failed(api.ErrArg))
	}
	issue(t, x, ops...)
	do(t, "no such letter", x, deliver(0), failed(api.ErrNone))
	do(t, "no such letter", x, deliver(-1), failed(api.ErrNone))
	for n := range 5 {
		do(t, "offer", x, offer(n), fleet.Event{})
	}
	if x.Letters() != 5 || x.Replica(0).Known() != 0 {
		t.Errorf("%d letters", x.Letters())
	}
	do(t, "to shim 2", x, deliver(4), fleet.Event{})
	if x.Shim(2).Known() != 7 || x.Letters() != 5 || x.Controller().Acked(4) != 0 {
		t.Errorf("shim 2 knows %d, %d letters", x.Shim(2).Known(), x.Letters())
	}
	do(t, "back", x, deliver(4), fleet.Event{})
	if x.Controller().Acked(4) != 7 || x.Controller().Told(4) != 7 || x.Letters() != 4 {
		t.Errorf("acknowledged %d, %d letters", x.Controller().Acked(4), x.Letters())
	}
	do(t, "nothing new", x, offer(4), failed(api.ErrNone))
	do(t, "to replica 1", x, deliver(1), fleet.Event{})
	if x.Replica(1).Known() != 7 || x.Replica(0).Known() != 0 || x.Shim(0).Known() != 0 {
		t.Error("another node received the letter")
	}
	do(t, "twice", x, fleet.Step{Kind: fleet.Twice, Who: 0}, fleet.Event{})
	do(t, "to replica 0", x, deliver(0), fleet.Event{})
	issue(t, x, backend(9))
	do(t, "offer of a whole state again", x, offer(0), fleet.Event{})
	for x.Letters() > 0 {
		x.Do(deliver(0))
	}
	if x.Replica(0).Known() != 8 || x.Controller().Told(0) != 8 {
		t.Errorf("replica 0 knows %d, told %d", x.Replica(0).Known(), x.Controller().Told(0))
	}
	do(t, "operations", x, offer(4), fleet.Event{})
	do(t, "operations", x, deliver(0), fleet.Event{})
	if x.Shim(2).Known() != 8 {
		t.Errorf("shim 2 knows %d", x.Shim(2).Known())
	}
}

// P35.3: a node answers with its Ack, whatever Receive returned.
func TestDeliverTwice(t *testing.T) {
	x := newFleet(t, setting())
	issue(t, x, ops...)
	x.Do(fleet.Step{Kind: fleet.Offer, Who: 2})
	x.Do(fleet.Step{Kind: fleet.Twice, Who: 0})
	do(t, "first", x, fleet.Step{Kind: fleet.Deliver}, fleet.Event{})
	do(t, "second", x, fleet.Step{Kind: fleet.Deliver}, failed(api.ErrTwice))
	if x.Letters() != 2 {
		t.Errorf("%d letters", x.Letters())
	}
	do(t, "back", x, fleet.Step{Kind: fleet.Deliver, Who: 1}, fleet.Event{})
	if x.Controller().Acked(2) != 7 {
		t.Errorf("acknowledged %d", x.Controller().Acked(2))
	}
	x.Do(fleet.Step{Kind: fleet.Crash})
	x.Do(fleet.Step{Kind: fleet.Deliver})
	if x.Controller().Acked(2) != 7 {
		t.Errorf("acknowledged %d after a crash", x.Controller().Acked(2))
	}
	y := newFleet(t, setting())
	issue(t, y, backend(1))
	y.Do(fleet.Step{Kind: fleet.Offer, Who: 0})
	do(t, "a whole state", y, fleet.Step{Kind: fleet.Deliver}, fleet.Event{})
	do(t, "drop", y, fleet.Step{Kind: fleet.Drop}, fleet.Event{})
	do(t, "drop of none", y, fleet.Step{Kind: fleet.Drop}, failed(api.ErrNone))
	do(t, "twice of none", y, fleet.Step{Kind: fleet.Twice}, failed(api.ErrNone))
	if y.Controller().Acked(0) != 0 {
		t.Error("a lost letter arrived")
	}
}

// P35.3: letters for which there is no space in the mail are lost.
func TestMailSpace(t *testing.T) {
	s := setting()
	s.Mail = 1
	x := newFleet(t, s)
	issue(t, x, ops...)
	do(t, "offer", x, fleet.Step{Kind: fleet.Offer}, fleet.Event{})
	do(t, "no space", x, fleet.Step{Kind: fleet.Offer, Who: 1}, failed(api.ErrFull))
	do(t, "twice, no space", x, fleet.Step{Kind: fleet.Twice}, failed(api.ErrFull))
	do(t, "deliver", x, fleet.Step{Kind: fleet.Deliver}, fleet.Event{})
	if x.Letters() != 1 {
		t.Errorf("%d letters", x.Letters())
	}
	s.Mail = 0
	y := newFleet(t, s)
	issue(t, y, ops...)
	do(t, "no space at all", y, fleet.Step{Kind: fleet.Offer}, failed(api.ErrFull))
	y.Settle(3)
	if y.Replica(0).Known() != 0 {
		t.Error("a letter arrived without mail")
	}
}

// P35.3: Restart forgets, loses the letters of the replica in both directions, and the controller learns of it.
func TestRestart(t *testing.T) {
	x := ready(t, setting())
	for _, n := range []int{-1, 2, 4} {
		do(t, "no such replica", x, fleet.Step{Kind: fleet.Restart, Who: n}, failed(api.ErrArg))
	}
	issue(t, x, backend(9))
	for n := range 3 {
		x.Do(fleet.Step{Kind: fleet.Offer, Who: n})
	}
	x.Do(fleet.Step{Kind: fleet.Deliver, Who: 1})
	x.Do(fleet.Step{Kind: fleet.Offer, Who: 1})
	if x.Letters() != 4 {
		t.Errorf("%d letters", x.Letters())
	}
	do(t, "restart", x, fleet.Step{Kind: fleet.Restart, Who: 1}, fleet.Event{})
	if x.Letters() != 2 || x.Replica(1).State() != nil || x.Replica(0).Known() != 7 || x.Controller().Told(1) != 0 || x.Controller().Acked(1) != 7 || x.Controller().Told(0) != 7 {
		t.Errorf("%d letters, told %d, acknowledged %d", x.Letters(), x.Controller().Told(1), x.Controller().Acked(1))
	}
	x.Settle(1)
	if x.Replica(1).Known() != 8 {
		t.Errorf("replica 1 knows %d", x.Replica(1).Known())
	}
}

// P35.3: Report and Tick.
func TestReportTick(t *testing.T) {
	x := newFleet(t, setting())
	for _, n := range []int{-1, 3} {
		do(t, "no such shim", x, fleet.Step{Kind: fleet.Report, Who: n}, failed(api.ErrArg))
	}
	do(t, "report", x, fleet.Step{Kind: fleet.Report, Who: 1, N: 77, Flags: 2}, fleet.Event{})
	do(t, "report", x, fleet.Step{Kind: fleet.Report, Who: 2, N: 78}, fleet.Event{})
	do(t, "report", x, fleet.Step{Kind: fleet.Report, Who: 1, N: 79}, fleet.Event{})
	for n := range 2 {
		b := x.Replica(n).Book
		if r, ok := b.Get(2); !ok || r != (load.Report{Backend: 2, Num: 2, Load: 79}) {
			t.Errorf("replica %d: %+v", n, r)
		}
		if r, ok := b.Get(3); !ok || r != (load.Report{Backend: 3, Num: 1, Load: 78}) {
			t.Errorf("replica %d: %+v", n, r)
		}
		if _, ok := b.Get(1); ok {
			t.Errorf("replica %d: a report of nobody", n)
		}
	}
	x.Do(fleet.Step{Kind: fleet.Report, Who: 0, Flags: 1})
	if r, _ := x.Replica(0).Book.Get(1); !r.Well {
		t.Errorf("report %+v", r)
	}
	for i, want := range []uint32{5, 1<<32 - 1, 4} {
		do(t, "tick", x, fleet.Step{Kind: fleet.Tick, N: []uint32{5, 1<<32 - 6, 5}[i]}, fleet.Event{})
		if x.Now() != want {
			t.Errorf("Now %d, want %d", x.Now(), want)
		}
	}
}

// P35.4: Send goes through the replica to the shim of the chosen backend.
func TestSend(t *testing.T) {
	x := ready(t, setting())
	for _, s := range []fleet.Step{{Who: -1}, {Who: 2}, {At: -1}, {At: 2}, {Who: 1, At: 7}} {
		for _, kind := range []int{fleet.Send, fleet.Quic} {
			s.Kind = kind
			do(t, "nobody", x, s, failed(api.ErrArg))
		}
	}
	do(t, "Send of UDP", x, fleet.Step{Kind: fleet.Send, Who: 1}, failed(api.ErrArg))
	do(t, "Quic of TCP", x, fleet.Step{Kind: fleet.Quic, Who: 0}, failed(api.ErrArg))
	do(t, "too long", x, fleet.Step{Kind: fleet.Send, Load: make([]byte, 65490)}, failed(api.ErrLong))
	options := []byte{1, 1, 8, 10, 0, 0, 0, 0, 0, 0, 0, 0}
	for tick, want := range []int{1, 2, 3} {
		got := x.Do(fleet.Step{Kind: fleet.Send, At: 1, Flags: tcp.SYN, Load: []byte("hello"), X: 9, Y: 9})
		s, e := tcp.Parse(got.Load)
		options[7] = byte(tick)
		if got.Kind != plane.Forward || got.Errno != api.OK || got.Why != packet.Fine || got.Backend != want || e != api.OK || !bytes.Equal(s.Options, options) || string(s.Load) != "hello" {
			t.Errorf("send %d: %+v", tick, got)
		}
		if x.Shim(want-1).Conns() != 1 {
			t.Errorf("shim %d has %d connections", want-1, x.Shim(want-1).Conns())
		}
	}
	do(t, "a service of nobody", newFleet(t, setting()), fleet.Step{Kind: fleet.Send, Flags: tcp.SYN}, fleet.Event{Kind: plane.Drop, Why: packet.NoTable})
	x.Do(fleet.Step{Kind: fleet.Send, Load: make([]byte, 1400), Flags: tcp.SYN})
	do(t, "too big", x, fleet.Step{Kind: fleet.Send, Load: make([]byte, 1460), Flags: tcp.SYN}, fleet.Event{Kind: plane.Answer, Why: packet.TooBig})
}

// P35.4: draws reach the replica, and a backend without a shim receives nothing.
func TestSendDraws(t *testing.T) {
	x := newFleet(t, setting())
	l := append([]config.Op{backend(4)}, ops...)
	l[4].Way = policy.Draws
	l[6] = members(0, 1, 2, 3, 4)
	issue(t, x, l...)
	x.Settle(1)
	for n := 1; n <= 4; n++ {
		x.Replica(0).Book.Note(load.Report{Backend: n, Num: 1, Load: uint32(10 - n), Well: true})
	}
	for a := range uint32(4) {
		for b := range uint32(4) {
			got := x.Do(fleet.Step{Kind: fleet.Send, Flags: tcp.SYN, X: a, Y: b})
			want := int(max(a, b)) + 1
			if got.Kind != plane.Forward || got.Why != packet.Fine || got.Backend != want || (len(got.Load) > 0) != (want < 4) {
				t.Errorf("draws %d %d: %+v", a, b, got)
			}
		}
	}
}

// P35.4: the packet arrives at the current tick, and the reason of the shim counts.
func TestSendArrives(t *testing.T) {
	x := ready(t, setting())
	x.Do(fleet.Step{Kind: fleet.Tick, N: 0x30005})
	x.Do(fleet.Step{Kind: fleet.Send, Flags: tcp.SYN})
	got := x.Do(fleet.Step{Kind: fleet.Reply, At: 0, Flags: tcp.SYN | tcp.ACK})
	if got.Errno != api.OK {
		t.Fatalf("Reply: %+v", got)
	}
	x.Do(fleet.Step{Kind: fleet.Tick, N: 2})
	later := x.Do(fleet.Step{Kind: fleet.Send, At: 1, Flags: tcp.ACK})
	s, _ := tcp.Parse(later.Load)
	if _, echo, ok := s.Stamp(); !ok || echo != 0x30005 || later.Backend != 1 || later.Kind != plane.Forward {
		t.Errorf("Send: %+v, echo %x", later, echo)
	}
	x.Do(fleet.Step{Kind: fleet.Tick, N: 0x10000})
	later = x.Do(fleet.Step{Kind: fleet.Send, At: 0, Flags: tcp.ACK})
	s, _ = tcp.Parse(later.Load)
	if _, echo, _ := s.Stamp(); echo != 0x40005 {
		t.Errorf("a tick too old to be restored: echo %x", echo)
	}
}

// P35.4: Reply leaves through the shim of backend At+1 to the client.
func TestReply(t *testing.T) {
	x := ready(t, setting())
	for _, s := range []fleet.Step{{Who: -1}, {Who: 2}, {At: -1}, {At: 3}} {
		for _, kind := range []int{fleet.Reply, fleet.Give} {
			s.Kind = kind
			do(t, "nobody", x, s, failed(api.ErrArg))
		}
	}
	do(t, "not known", x, fleet.Step{Kind: fleet.Reply}, failed(api.ErrNone))
	do(t, "UDP", x, fleet.Step{Kind: fleet.Reply, Who: 1}, failed(api.ErrArg))
	x.Do(fleet.Step{Kind: fleet.Send, Flags: tcp.SYN})
	x.Do(fleet.Step{Kind: fleet.Tick, N: 0x01020304})
	do(t, "another shim", x, fleet.Step{Kind: fleet.Reply, At: 1}, failed(api.ErrNone))
	do(t, "too long", x, fleet.Step{Kind: fleet.Reply, Load: make([]byte, 65490)}, failed(api.ErrLong))
	got := x.Do(fleet.Step{Kind: fleet.Reply, Flags: 0x15, Load: []byte("answer")})
	info, why := packet.Host(got.Load)
	c, _ := cookie.Hide(ring.New(key, 0), tcp4, cookie.Place{})
	stamp := cookie.Blend(0x01020304, c)
	want := []byte{1, 1, 8, 10, byte(stamp >> 24), byte(stamp >> 16), byte(stamp >> 8), byte(stamp), 0, 0, 0, 0}
	if got.Errno != api.OK || got.Kind != 0 || got.Why != 0 || got.Backend != 1 || why != packet.Fine || info.Flow != addr.Back(tcp4) {
		t.Errorf("Reply: %+v", got)
	}
	if info.TCP.Flags != 0x15 || string(info.TCP.Load) != "answer" || !bytes.Equal(info.TCP.Options, want) || info.TCP.Seq != 0 || info.TCP.Window != 0 {
		t.Errorf("segment %+v, want options %x", info.TCP, want)
	}
	if r, ok := x.Client(0).Recent(); !ok || r != stamp {
		t.Errorf("the client has %x %v, want %x", r, ok, stamp)
	}
}

// P35.4: Give sends an ID to the client, which uses it then.
func TestGive(t *testing.T) {
	x := ready(t, setting())
	do(t, "no state", newFleet(t, setting()), fleet.Step{Kind: fleet.Give, Who: 1}, failed(api.ErrNone))
	do(t, "TCP", x, fleet.Step{Kind: fleet.Give, Who: 0, At: 1}, failed(api.ErrArg))
	id, _ := cid.Make(ring.New(key, 0), cookie.Place{Slot: 1}, 1<<20+1)
	do(t, "give, a number later", x, fleet.Step{Kind: fleet.Give, Who: 1, At: 1}, fleet.Event{Backend: 2, Load: id})
	if !bytes.Equal(x.Client(1).ID(), id) {
		t.Errorf("the client has %x", x.Client(1).ID())
	}
	for n := range 2 {
		got := x.Do(fleet.Step{Kind: fleet.Quic, Who: 1, At: n, Load: []byte("data")})
		d, e := udp.Parse(got.Load)
		if got.Kind != plane.Forward || got.Backend != 2 || e != api.OK || !bytes.Equal(d.Load, append(append([]byte{0x40}, id...), "data"...)) {
			t.Errorf("Quic through replica %d: %+v", n, got)
		}
	}
	s := setting()
	s.Flows[1].DstPort = 444
	do(t, "no service", ready(t, s), fleet.Step{Kind: fleet.Give, Who: 1}, failed(api.ErrNone))
	issue(t, x, members(1, 1, 3))
	x.Settle(1)
	do(t, "not in the newest table", x, fleet.Step{Kind: fleet.Give, Who: 1, At: 1}, failed(api.ErrNone))
}

// P35.4: Move moves a client to a valid address.
func TestMove(t *testing.T) {
	x := ready(t, setting())
	for _, s := range []fleet.Step{{Who: -1}, {Who: 2}, {Src: api.Addr{High: 1}}, {Who: 5, Src: api.Addr{High: 1}}} {
		s.Kind = fleet.Move
		do(t, "move", x, s, failed(api.ErrArg))
	}
	do(t, "another family", x, fleet.Step{Kind: fleet.Move, Src: addr.V6(1, 1), Port: 5}, fleet.Event{})
	if x.Client(0).Flow() != tcp4 {
		t.Error("moved to another family")
	}
	do(t, "move", x, fleet.Step{Kind: fleet.Move, Who: 1, Src: addr.V4(9, 9, 9, 9), Port: 77}, fleet.Event{})
	want := udp4
	want.Src, want.SrcPort = addr.V4(9, 9, 9, 9), 77
	if x.Client(1).Flow() != want {
		t.Errorf("moved: %+v", x.Client(1).Flow())
	}
}

// P35.3, P35.4: the numbers of kinds, other kinds, and a nil fleet.
func TestKinds(t *testing.T) {
	kinds := []int{fleet.Issue, fleet.Commit, fleet.Crash, fleet.Offer, fleet.Deliver, fleet.Drop, fleet.Twice, fleet.Restart, fleet.Report, fleet.Send, fleet.Reply, fleet.Tick, fleet.Quic, fleet.Give, fleet.Move}
	var none *fleet.Fleet
	for i, kind := range kinds {
		if kind != i {
			t.Errorf("kind %d is %d", i, kind)
		}
		do(t, "nil", none, fleet.Step{Kind: kind, Who: -1}, failed(api.ErrNil))
	}
	x := newFleet(t, setting())
	for _, kind := range []int{-1, 15, 16, 1 << 40} {
		do(t, "other kinds", x, fleet.Step{Kind: kind}, failed(api.ErrArg))
		do(t, "nil, other kinds", none, fleet.Step{Kind: kind}, failed(api.ErrNil))
	}
	none.Settle(5)
	if none.Now() != 0 || none.Letters() != 0 || none.Controller() != nil || none.Replica(0) != nil || none.Shim(0) != nil || none.Client(0) != nil {
		t.Error("nil fleet")
	}
}

// P35.5: Settle offers to each node, and delivers all letters.
func TestSettle(t *testing.T) {
	x := newFleet(t, setting())
	x.Settle(2)
	issue(t, x, ops...)
	x.Do(fleet.Step{Kind: fleet.Offer, Who: 4})
	x.Settle(0)
	x.Settle(-3)
	if x.Letters() != 1 {
		t.Errorf("%d letters", x.Letters())
	}
	x.Settle(1)
	for n := range 5 {
		if x.Letters() != 0 || x.Controller().Acked(n) != 7 {
			t.Errorf("node %d has acknowledged %d", n, x.Controller().Acked(n))
		}
	}
	for i := range 40 {
		issue(t, x, backend(i+1))
	}
	for round, want := range []uint64{7, 23, 39, 47, 47} {
		for n := range 5 {
			if x.Controller().Acked(n) != want {
				t.Errorf("round %d: node %d has acknowledged %d, want %d", round, n, x.Controller().Acked(n), want)
			}
		}
		x.Settle(1)
	}
}

// P35.7: with space for a letter, 3 rounds and one for each 16 safe operations reach all nodes.
func TestSettleReaches(t *testing.T) {
	rnd := rand.New(rand.NewSource(1))
	for range 40 {
		s := setting()
		s.Mail = 1 + rnd.Intn(4)
		x := newFleet(t, s)
		for range 10 + rnd.Intn(60) {
			switch rnd.Intn(6) {
			case 0, 1:
				x.Do(fleet.Step{Kind: fleet.Issue, Op: backend(1 + rnd.Intn(64))})
				x.Do(fleet.Step{Kind: fleet.Commit})
			case 2:
				x.Do(fleet.Step{Kind: fleet.Offer, Who: rnd.Intn(5)})
			case 3:
				x.Do(fleet.Step{Kind: []int{fleet.Deliver, fleet.Drop, fleet.Twice}[rnd.Intn(3)], Who: rnd.Intn(3)})
			case 4:
				x.Do(fleet.Step{Kind: fleet.Restart, Who: rnd.Intn(2)})
			case 5:
				x.Do(fleet.Step{Kind: fleet.Crash})
			}
		}
		safe, _ := x.Controller().Len()
		x.Settle(3 + (safe+15)/16)
		want := codec.State(x.Controller().State())
		for n := range 2 {
			if safe > 0 && !bytes.Equal(codec.State(x.Replica(n).State()), want) {
				t.Fatalf("replica %d knows %d of %d", n, x.Replica(n).Known(), safe)
			}
		}
		for n := range 3 {
			if safe > 0 && !bytes.Equal(codec.State(x.Shim(n).State()), want) {
				t.Fatalf("shim %d knows %d of %d", n, x.Shim(n).Known(), safe)
			}
		}
	}
}

// P35.6: a segment that echoes a shim's timestamp goes to that backend or is dropped, whichever replica receives it.
func TestConnectionsStay(t *testing.T) {
	rnd := rand.New(rand.NewSource(2))
	kept := 0
	for range 60 {
		s := setting()
		s.Flows = nil
		for i := range 6 {
			f := tcp4
			f.SrcPort = uint16(1000 + i)
			s.Flows = append(s.Flows, f)
		}
		x := ready(t, s)
		owner := map[int]int{}
		rotated := false
		for range 150 {
			who := rnd.Intn(6)
			switch rnd.Intn(9) {
			case 0:
				got := x.Do(fleet.Step{Kind: fleet.Send, Who: who, At: rnd.Intn(2), Flags: tcp.SYN})
				if got.Kind == plane.Forward && got.Backend > 0 {
					if e := x.Do(fleet.Step{Kind: fleet.Reply, Who: who, At: got.Backend - 1, Flags: tcp.SYN | tcp.ACK}); e.Errno == api.OK {
						if r, _ := x.Client(who).Recent(); r == stampOf(e.Load) {
							owner[who] = got.Backend
						}
					}
				}
			case 1, 2, 3:
				if owner[who] == 0 {
					continue
				}
				got := x.Do(fleet.Step{Kind: fleet.Send, Who: who, At: rnd.Intn(2), Flags: tcp.ACK})
				if got.Kind == plane.Forward && got.Backend != owner[who] {
					t.Fatalf("connection %d of backend %d went to %d", who, owner[who], got.Backend)
				}
				if got.Kind == plane.Forward {
					kept++
				}
			case 4:
				issueAny(x, members(0, 1+rnd.Intn(3), 1+rnd.Intn(3)))
			case 5:
				issueAny(x, config.Op{Kind: []int{config.Retire, config.Release}[rnd.Intn(2)], Version: rnd.Intn(8)})
			case 6:
				if !rotated {
					rotated = true
					issueAny(x, config.Op{Kind: config.Rotate})
				}
			case 7:
				x.Do(fleet.Step{Kind: fleet.Offer, Who: rnd.Intn(5)})
				x.Do(fleet.Step{Kind: fleet.Deliver, Who: rnd.Intn(3)})
			case 8:
				x.Do(fleet.Step{Kind: fleet.Tick, N: uint32(rnd.Intn(100))})
			}
		}
	}
	if kept < 300 {
		t.Errorf("only %d segments were forwarded", kept)
	}
}

func issueAny(x *fleet.Fleet, o config.Op) {
	x.Do(fleet.Step{Kind: fleet.Issue, Op: o})
	x.Do(fleet.Step{Kind: fleet.Commit})
}

func stampOf(b []byte) uint32 {
	info, _ := packet.Host(b)
	val, _, _ := info.TCP.Stamp()
	return val
}

// Determinism: the same steps have the same events.
func TestSameAgain(t *testing.T) {
	run := func() []fleet.Event {
		rnd := rand.New(rand.NewSource(3))
		x := ready(t, setting())
		var l []fleet.Event
		for range 300 {
			l = append(l, x.Do(fleet.Step{Kind: rnd.Intn(16), Op: ops[rnd.Intn(len(ops))], Who: rnd.Intn(3), At: rnd.Intn(3), Flags: uint8(rnd.Intn(32)), Load: []byte("x"), N: 5, X: rnd.Uint32(), Y: rnd.Uint32(), Src: tcp4.Src, Port: uint16(rnd.Intn(5))}))
		}
		return l
	}
	if !reflect.DeepEqual(run(), run()) {
		t.Error("the events differ")
	}
}
