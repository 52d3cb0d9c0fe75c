package control_test

import (
	"bytes"
	"math/rand"
	"testing"

	"counterfoil/addr"
	"counterfoil/api"
	"counterfoil/codec"
	"counterfoil/config"
	"counterfoil/control"
	"counterfoil/disk"
	"counterfoil/journal"
	"counterfoil/siphash"
)

var key = siphash.Of(1, 2)

func backend(n int) config.Op {
	return config.Op{Kind: config.AddBackend, Backend: n, Addr: addr.V4(10, 0, 2, byte(n))}
}

func service(port uint16) config.Op {
	return config.Op{Kind: config.AddVip, Addr: addr.V4(192, 0, 2, 1), Port: port, Proto: 6, Way: 1}
}

func members(vip int, l ...int) config.Op {
	o := config.Op{Kind: config.SetMembers, Vip: vip}
	for _, n := range l {
		o.Members = append(o.Members, config.Member{Backend: n, Weight: 1})
	}
	return o
}

func retire(vip, version int) config.Op {
	return config.Op{Kind: config.Retire, Vip: vip, Version: version}
}

func release(vip, version int) config.Op {
	return config.Op{Kind: config.Release, Vip: vip, Version: version}
}

func open(t *testing.T, d *disk.Disk, nodes int) *control.Controller {
	t.Helper()
	c, e := control.Open(d, key, nodes)
	if e != api.OK {
		t.Fatalf("Open %d", e)
	}
	return c
}

func issue(t *testing.T, c *control.Controller, l ...config.Op) {
	t.Helper()
	for _, o := range l {
		if e := c.Issue(o); e != api.OK {
			t.Fatalf("Issue of %+v: %d", o, e)
		}
	}
}

func refuse(t *testing.T, c *control.Controller, o config.Op, want api.Errno) {
	t.Helper()
	safe, issued := c.Len()
	if e := c.Issue(o); e != want {
		t.Errorf("Issue of %+v: %d, want %d", o, e, want)
	}
	checkLen(t, c, safe, issued)
}

func checkLen(t *testing.T, c *control.Controller, safe, issued int) {
	t.Helper()
	if s, i := c.Len(); s != safe || i != issued {
		t.Errorf("Len %d %d, want %d %d", s, i, safe, issued)
	}
}

// checkState compares the controller's state with that after operations.
func checkState(t *testing.T, c *control.Controller, l ...config.Op) {
	t.Helper()
	s := config.New(key)
	for _, o := range l {
		s.Apply(o)
	}
	if !bytes.Equal(codec.State(c.State()), codec.State(s)) {
		t.Errorf("State %x, want %x", codec.State(c.State()), codec.State(s))
	}
}

// P26.1, P26.2: issued operations become safe with Commit.
func TestIssueCommit(t *testing.T) {
	d := disk.New(10000)
	c := open(t, d, 2)
	checkLen(t, c, 0, 0)
	checkState(t, c)
	issue(t, c, backend(1), service(80))
	checkLen(t, c, 0, 2)
	checkState(t, c)
	if e := c.Commit(); e != api.OK || d.Syncs() != 1 {
		t.Errorf("Commit %d", e)
	}
	checkLen(t, c, 2, 2)
	checkState(t, c, backend(1), service(80))
	issue(t, c, members(0, 1))
	checkLen(t, c, 2, 3)
	checkState(t, c, backend(1), service(80))
	c.State().Apply(backend(9))
	checkState(t, c, backend(1), service(80))
	c.Commit()
	c.Commit()
	checkState(t, c, backend(1), service(80), members(0, 1))
	want := bytes.Join([][]byte{journal.Frame(1, codec.Op(backend(1))), journal.Frame(2, codec.Op(service(80))), journal.Frame(3, codec.Op(members(0, 1)))}, nil)
	if !bytes.Equal(d.Read(), want) || d.Safe() != len(want) {
		t.Errorf("disk %x", d.Read())
	}
}

// P26.1: Open replays the journal, and all of it is safe.
func TestOpen(t *testing.T) {
	d := disk.New(10000)
	c := open(t, d, 3)
	issue(t, c, backend(1), service(80))
	c.Commit()
	c.Ack(1, 2)
	issue(t, c, members(0, 1))
	again := open(t, d, 3)
	checkLen(t, again, 3, 3)
	checkState(t, again, backend(1), service(80), members(0, 1))
	if again.Acked(1) != 0 || again.Told(1) != 0 || d.Safe() != d.Len() {
		t.Error("acknowledgements, or unsynced bytes, after Open")
	}
}

// P26.1: the errors of Open, in their order.
func TestOpenErrors(t *testing.T) {
	if c, e := control.Open(nil, key, -1); c != nil || e != api.ErrNil {
		t.Errorf("no disk: %d", e)
	}
	for n, want := range map[int]api.Errno{-1: api.ErrArg, 17: api.ErrArg, 0: api.OK, 16: api.OK, -1 << 63: api.ErrArg, 1<<63 - 1: api.ErrArg} {
		if c, e := control.Open(disk.New(10), key, n); e != want || (c != nil) != (want == api.OK) {
			t.Errorf("%d nodes: %d", n, e)
		}
	}
	frame := func(ops ...[]byte) []byte {
		var b []byte
		for i, o := range ops {
			b = append(b, journal.Frame(uint64(i+1), o)...)
		}
		return b
	}
	for name, b := range map[string][]byte{
		"no operation": frame([]byte("junk")), "no operation, later": frame(codec.Op(backend(1)), nil), "cannot be applied": frame(codec.Op(members(0, 1))),
		"cannot be applied later": frame(codec.Op(backend(1)), codec.Op(service(80)), codec.Op(members(0, 2))), "applied twice": frame(codec.Op(service(80)), codec.Op(service(80))),
	} {
		d := disk.New(10000)
		d.Append(b)
		d.Append([]byte("torn"))
		if c, e := control.Open(d, key, 17); c != nil || e != api.ErrArg || d.Len() != len(b) || d.Safe() != len(b) {
			t.Errorf("%s, too many nodes: %d, %d bytes", name, e, d.Len())
		}
		d.Append([]byte("torn"))
		if c, e := control.Open(d, key, 1); c != nil || e != api.ErrBad || !bytes.Equal(d.Read(), b) || d.Safe() != len(b) {
			t.Errorf("%s: %d, %d bytes", name, e, d.Len())
		}
	}
}

// P26.2: the errors of Issue, in their order.
func TestIssueErrors(t *testing.T) {
	d := disk.New(10000)
	c := open(t, d, 0)
	refuse(t, c, config.Op{Kind: config.AddBackend, Backend: 256, Addr: addr.V4(1, 1, 1, 1)}, api.ErrArg)
	refuse(t, c, config.Op{Kind: config.SetMembers, Vip: -1}, api.ErrArg)
	refuse(t, c, config.Op{Kind: config.SetMembers, Vip: 1}, api.ErrNone)
	refuse(t, c, config.Op{Kind: config.Retire, Version: 300, Vip: 1}, api.ErrArg)
	issue(t, c, service(80))
	refuse(t, c, service(80), api.ErrTwice)
	refuse(t, c, release(0, 0), api.ErrNone)
	refuse(t, c, members(0, 1), api.ErrArg)
	issue(t, c, backend(1), members(0, 1), members(0))
	refuse(t, c, retire(0, 1), api.ErrArg)
	refuse(t, c, retire(0, 2), api.ErrVersion)
	size := len(journal.Frame(1, codec.Op(backend(1))))
	small := disk.New(2*size - 1)
	c = open(t, small, 0)
	issue(t, c, backend(1))
	refuse(t, c, backend(2), api.ErrFull)
	refuse(t, c, backend(0), api.ErrArg)
	c.Commit()
	checkLen(t, c, 1, 1)
	checkState(t, c, backend(1))
}

// P26.2: a version is released when all nodes have acknowledged its last Retire at some time.
func TestRelease(t *testing.T) {
	c := open(t, disk.New(10000), 2)
	issue(t, c, backend(1), service(80), service(81), members(0, 1), members(0, 1), members(1, 1), members(1, 1), retire(1, 0), retire(0, 0))
	refuse(t, c, release(0, 0), api.ErrBusy)
	refuse(t, c, release(0, 1), api.ErrNone)
	refuse(t, c, release(2, 0), api.ErrNone)
	c.Commit()
	refuse(t, c, release(1, 0), api.ErrBusy)
	c.Ack(0, 9)
	refuse(t, c, release(0, 0), api.ErrBusy)
	c.Ack(1, 8)
	refuse(t, c, release(0, 0), api.ErrBusy)
	c.Ack(0, 0)
	issue(t, c, release(1, 0))
	c.Ack(1, 9)
	c.Ack(1, 2)
	issue(t, c, release(0, 0))
	c.Commit()
	issue(t, c, members(0, 1), retire(0, 1))
	refuse(t, c, release(0, 1), api.ErrBusy)
	c.Commit()
	c.Ack(0, 13)
	c.Ack(1, 12)
	refuse(t, c, release(0, 1), api.ErrBusy)
	c.Ack(1, 13)
	issue(t, c, release(0, 1))
}

// P26.2: of several Retires of one version the last one counts; without nodes there is nobody to wait for.
func TestReleaseLast(t *testing.T) {
	c := open(t, disk.New(10000), 1)
	issue(t, c, backend(1), service(80), members(0, 1), members(0, 1), retire(0, 0))
	c.Commit()
	c.Ack(0, 5)
	issue(t, c, release(0, 0), members(0, 1), members(0, 1), retire(0, 0))
	c.Commit()
	refuse(t, c, release(0, 0), api.ErrBusy)
	c.Ack(0, 8)
	refuse(t, c, release(0, 0), api.ErrBusy)
	c.Ack(0, 9)
	issue(t, c, release(0, 0))
	none := open(t, disk.New(10000), 0)
	issue(t, none, backend(1), service(80), members(0, 1), members(0, 1), retire(0, 0), release(0, 0))
}

// P26.2: ErrBusy is ahead of the error of the journal.
func TestBusyAheadOfFull(t *testing.T) {
	ops := []config.Op{backend(1), service(80), members(0, 1), members(0, 1), retire(0, 0)}
	size := 0
	for i, o := range ops {
		size += len(journal.Frame(uint64(i+1), codec.Op(o)))
	}
	c := open(t, disk.New(size), 1)
	issue(t, c, ops...)
	c.Commit()
	refuse(t, c, release(0, 0), api.ErrBusy)
	c.Ack(0, 5)
	refuse(t, c, release(0, 0), api.ErrFull)
}

// P26.3: Acked is the greatest number, Told the last one.
func TestAck(t *testing.T) {
	c := open(t, disk.New(10000), 2)
	issue(t, c, backend(1), backend(2), backend(3))
	if e := c.Ack(0, 1); e != api.ErrArg {
		t.Errorf("Ack of an operation that is not safe: %d", e)
	}
	c.Commit()
	issue(t, c, backend(4))
	for _, x := range []struct {
		node        int
		n           uint64
		want        api.Errno
		acked, told uint64
	}{
		{0, 2, api.OK, 2, 2}, {0, 1, api.OK, 2, 1}, {0, 4, api.ErrArg, 2, 1}, {0, 3, api.OK, 3, 3}, {0, 0, api.OK, 3, 0}, {0, 1<<64 - 1, api.ErrArg, 3, 0},
		{1, 0, api.OK, 0, 0}, {2, 1, api.ErrArg, 0, 0}, {-1, 1, api.ErrArg, 0, 0}, {1 << 40, 0, api.ErrArg, 0, 0}, {1, 3, api.OK, 3, 3},
	} {
		if e := c.Ack(x.node, x.n); e != x.want || c.Acked(x.node) != x.acked || c.Told(x.node) != x.told {
			t.Errorf("Ack(%d, %d): %d, Acked %d, Told %d", x.node, x.n, e, c.Acked(x.node), c.Told(x.node))
		}
	}
	if c.Acked(0) != 3 || c.Told(0) != 0 {
		t.Error("another node's Ack counted")
	}
}

// P26.3: Since returns the safe operations after the first n.
func TestSince(t *testing.T) {
	c := open(t, disk.New(10000), 0)
	issue(t, c, backend(1), backend(2), backend(3))
	if len(c.Since(0)) != 0 {
		t.Error("operations that are not safe")
	}
	c.Commit()
	issue(t, c, backend(4))
	for n, want := range map[uint64]int{0: 3, 1: 2, 2: 1, 3: 0, 4: 0, 1<<64 - 1: 0, 1 << 63: 0} {
		l := c.Since(n)
		if len(l) != want {
			t.Errorf("Since(%d): %d operations", n, len(l))
		}
		for i, b := range l {
			if !bytes.Equal(b, codec.Op(backend(int(n)+i+1))) {
				t.Errorf("Since(%d): operation %d is %x", n, i, b)
			}
		}
	}
	c.Since(0)[0][0] = 99
	if c.Since(0)[0][0] != config.AddBackend {
		t.Error("Since shares the journal")
	}
}

// A nil controller contains nothing.
func TestNil(t *testing.T) {
	var c *control.Controller
	checkLen(t, c, 0, 0)
	if c.State() != nil || c.Acked(0) != 0 || c.Told(0) != 0 || len(c.Since(0)) != 0 {
		t.Error("something is there")
	}
	if c.Issue(config.Op{Kind: -1}) != api.ErrNil || c.Issue(backend(1)) != api.ErrNil || c.Commit() != api.ErrNil || c.Ack(0, 0) != api.ErrNil || c.Ack(-1, 5) != api.ErrNil {
		t.Error("changes")
	}
}

// P26.4: after a crash a prefix is there that includes all safe operations.
func TestCrash(t *testing.T) {
	d := disk.New(10000)
	c := open(t, d, 0)
	issue(t, c, backend(1))
	d.Crash(0, 0)
	checkLen(t, open(t, d, 0), 0, 0)
	rnd := rand.New(rand.NewSource(1))
	for range 200 {
		d := disk.New(10000)
		c := open(t, d, 1)
		var all []config.Op
		safe := 0
		for range rnd.Intn(15) {
			o := backend(1 + rnd.Intn(64))
			issue(t, c, o)
			all = append(all, o)
			if rnd.Intn(4) == 0 {
				c.Commit()
				safe = len(all)
			}
		}
		d.Crash(rnd.Intn(d.Len()-d.Safe()+1), byte(rnd.Intn(2)))
		again := open(t, d, 1)
		s, n := again.Len()
		if s != n || n < safe || n > len(all) {
			t.Fatalf("%d of %d issued, %d safe", n, len(all), safe)
		}
		checkState(t, again, all[:n]...)
	}
}

// P26.5: no version is assigned again before all nodes have acknowledged that it was retired.
func TestVersionsWait(t *testing.T) {
	rnd := rand.New(rand.NewSource(2))
	for range 30 {
		c := open(t, disk.New(1<<20), 2)
		issue(t, c, backend(1), service(80), members(0, 1))
		retiredAt := map[int]uint64{}
		for range 200 {
			_, issued := c.Len()
			before := c.State()
			switch rnd.Intn(5) {
			case 0:
				c.Issue(members(0, 1))
			case 1:
				v := rnd.Intn(8)
				if c.Issue(retire(0, v)) == api.OK {
					retiredAt[v] = uint64(issued + 1)
				}
			case 2:
				v := rnd.Intn(8)
				if c.Issue(release(0, v)) == api.OK && (c.Acked(0) < retiredAt[v] || c.Acked(1) < retiredAt[v]) {
					t.Fatalf("version %d was released, retired at %d, acknowledged %d and %d", v, retiredAt[v], c.Acked(0), c.Acked(1))
				}
			case 3:
				c.Commit()
			case 4:
				c.Ack(rnd.Intn(2), uint64(rnd.Intn(int(before.Num)+1)))
			}
		}
	}
}
