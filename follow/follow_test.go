package follow_test

import (
	"bytes"
	"math/rand"
	"slices"
	"testing"

	"counterfoil/addr"
	"counterfoil/api"
	"counterfoil/codec"
	"counterfoil/config"
	"counterfoil/control"
	"counterfoil/disk"
	"counterfoil/follow"
	"counterfoil/siphash"
)

var key = siphash.Of(1, 2)

func backend(n int) config.Op {
	return config.Op{Kind: config.AddBackend, Backend: n, Addr: addr.V4(10, 0, 2, byte(n))}
}

func sameMessage(a, b follow.Message) bool {
	return a.Kind == b.Kind && a.Num == b.Num && slices.EqualFunc(a.L, b.L, bytes.Equal)
}

func parts(n, size int) [][]byte {
	var l [][]byte
	for range n {
		l = append(l, make([]byte, size))
	}
	return l
}

// controller returns a controller with safe operations on backends 1 to n.
func controller(t *testing.T, n int) *control.Controller {
	t.Helper()
	c, _ := control.Open(disk.New(1<<20), key, 1)
	for i := range n {
		if e := c.Issue(backend(i%64 + 1)); e != api.OK {
			t.Fatalf("Issue %d", e)
		}
	}
	c.Commit()
	return c
}

// stateOf returns the state after operations on backends 1 to n.
func stateOf(n int) *config.State {
	s := config.New(key)
	for i := range n {
		s.Apply(backend(i%64 + 1))
	}
	return s
}

func whole(n int) follow.Message {
	return follow.Message{Kind: follow.Whole, Num: uint64(n), L: [][]byte{codec.State(stateOf(n))}}
}

// ops returns the operations from the one after the first n on, up to the last one.
func ops(n, last int) follow.Message {
	m := follow.Message{Kind: follow.Ops, Num: uint64(n)}
	for i := n; i < last; i++ {
		m.L = append(m.L, codec.Op(backend(i%64+1)))
	}
	return m
}

// P27.1: which messages are valid; Bytes of any other one is nothing.
func TestRight(t *testing.T) {
	if follow.Ops != 1 || follow.Whole != 2 || follow.Ack != 3 || follow.MostOps != 16 {
		t.Error("constants")
	}
	for _, x := range []struct {
		kind int
		l    [][]byte
		want bool
	}{
		{follow.Ops, nil, false}, {follow.Ops, parts(1, 0), true}, {follow.Ops, parts(16, 3), true}, {follow.Ops, parts(17, 3), false}, {follow.Ops, parts(2, 65535), true},
		{follow.Ops, append(parts(1, 1), make([]byte, 65536)), false}, {follow.Whole, nil, false}, {follow.Whole, parts(1, 65535), true}, {follow.Whole, parts(1, 65536), false},
		{follow.Whole, parts(2, 1), false}, {follow.Ack, nil, true}, {follow.Ack, parts(1, 0), false}, {0, nil, false}, {4, nil, false}, {-1, nil, false}, {0, parts(1, 1), false}, {4, parts(1, 1), false},
	} {
		m := follow.Message{Kind: x.kind, Num: 5, L: x.l}
		if m.Right() != x.want || (len(m.Bytes()) > 0) != x.want {
			t.Errorf("kind %d, %d parts: Right %v, %d bytes", x.kind, len(x.l), m.Right(), len(m.Bytes()))
		}
		if got, e := follow.Parse(m.Bytes()); x.want && (e != api.OK || !sameMessage(got, m)) {
			t.Errorf("kind %d, %d parts: Parse %d", x.kind, len(x.l), e)
		}
	}
}

var known = follow.Message{Kind: follow.Ops, Num: 0x0102030405060708, L: [][]byte{{10, 11}, {}, bytes.Repeat([]byte{12}, 300)}}

var knownBytes = slices.Concat([]byte{1, 1, 2, 3, 4, 5, 6, 7, 8, 3, 0, 2, 10, 11, 0, 0, 1, 44}, bytes.Repeat([]byte{12}, 300))

// P27.1: the encoding, and that Parse accepts nothing else.
func TestBytesParse(t *testing.T) {
	if got := known.Bytes(); !bytes.Equal(got, knownBytes) {
		t.Errorf("Bytes %x", got)
	}
	if got := (follow.Message{Kind: follow.Ack, Num: 1<<64 - 1}).Bytes(); !bytes.Equal(got, []byte{3, 255, 255, 255, 255, 255, 255, 255, 255, 0}) {
		t.Errorf("Bytes of an Ack: %x", got)
	}
	m, e := follow.Parse(knownBytes)
	if e != api.OK || !sameMessage(m, known) {
		t.Errorf("Parse %+v %d", m, e)
	}
	m.L[0][0] = 99
	_ = append(m.L[0], 99, 99, 99)
	if knownBytes[12] != 10 || knownBytes[14] != 0 || m.L[2][0] != 12 {
		t.Error("Parse shares its argument")
	}
	with := func(at int, c byte) []byte {
		b := bytes.Clone(knownBytes)
		b[at] = c
		return b
	}
	bad := [][]byte{
		with(0, 0), with(0, 2), with(0, 3), with(0, 4), with(0, 255), with(9, 0), with(9, 2), with(9, 4), with(17, 43), with(17, 45), append(bytes.Clone(knownBytes), 0),
		{3, 0, 0, 0, 0, 0, 0, 0, 1, 1, 0, 0}, {2, 0, 0, 0, 0, 0, 0, 0, 1, 0}, {1, 0, 0, 0, 0, 0, 0, 0, 1, 0}, append([]byte{1, 0, 0, 0, 0, 0, 0, 0, 1, 17}, make([]byte, 34)...),
	}
	for n := range knownBytes {
		bad = append(bad, knownBytes[:n])
	}
	for _, b := range bad {
		if m, e := follow.Parse(b); e != api.ErrForm || !sameMessage(m, follow.Message{}) {
			t.Errorf("Parse of %x: %+v %d", b, m, e)
		}
	}
	if m, e := follow.Parse(append([]byte{1, 0, 0, 0, 0, 0, 0, 0, 1, 16}, make([]byte, 32)...)); e != api.OK || len(m.L) != 16 {
		t.Errorf("16 parts: %d", e)
	}
}

// P27.2: what a node needs that knows n operations.
func TestOffer(t *testing.T) {
	for _, n := range []uint64{0, 1, 1<<64 - 1} {
		if m, ok := follow.Offer(controller(t, 0), n); ok || !sameMessage(m, follow.Message{}) {
			t.Errorf("no operations, %d known: %+v", n, m)
		}
		if m, ok := follow.Offer(nil, n); ok || !sameMessage(m, follow.Message{}) {
			t.Errorf("no controller, %d known: %+v", n, m)
		}
	}
	c := controller(t, 40)
	c.Issue(backend(50))
	if m, ok := follow.Offer(c, 0); !ok || !sameMessage(m, whole(40)) {
		t.Errorf("nothing known: kind %d, Num %d", m.Kind, m.Num)
	}
	for n := uint64(1); n < 45; n++ {
		m, ok := follow.Offer(c, n)
		want := ops(int(n), min(int(n)+16, 40))
		if ok != (n < 40) || ok && !sameMessage(m, want) || !ok && !sameMessage(m, follow.Message{}) {
			t.Errorf("%d known: kind %d, Num %d, %d parts %v", n, m.Kind, m.Num, len(m.L), ok)
		}
		if ok && !m.Right() {
			t.Errorf("%d known: the message is not valid", n)
		}
	}
	if m, ok := follow.Offer(c, 1<<64-1); ok || !sameMessage(m, follow.Message{}) {
		t.Error("more known than there is")
	}
	if m, ok := follow.Offer(controller(t, 1), 0); !ok || !sameMessage(m, whole(1)) {
		t.Error("one operation")
	}
}

// P27.3: a follower knows a state, or none.
func TestFollower(t *testing.T) {
	var f follow.Follower
	none := func(name string) {
		t.Helper()
		if f.State() != nil || f.Known() != 0 || !sameMessage(f.Ack(), follow.Message{Kind: follow.Ack}) {
			t.Errorf("%s: Known %d", name, f.Known())
		}
	}
	none("zero")
	f.Forget()
	none("zero, forgotten")
	if e := f.Receive(whole(7)); e != api.OK || f.Known() != 7 || !sameMessage(f.Ack(), follow.Message{Kind: follow.Ack, Num: 7}) {
		t.Errorf("Receive %d, Known %d", e, f.Known())
	}
	if !bytes.Equal(codec.State(f.State()), codec.State(stateOf(7))) {
		t.Error("State")
	}
	f.Forget()
	none("forgotten")
	if e := f.Receive(whole(3)); e != api.OK || f.Known() != 3 {
		t.Errorf("Receive %d, Known %d", e, f.Known())
	}
}

// step is a message, the error that it meets, and what is known then.
type step struct {
	name  string
	m     follow.Message
	want  api.Errno
	known int
}

func run(t *testing.T, f *follow.Follower, steps []step) {
	t.Helper()
	for _, x := range steps {
		if e := f.Receive(x.m); e != x.want || f.Known() != uint64(x.known) {
			t.Errorf("%s: %d, Known %d, want %d and %d", x.name, e, f.Known(), x.want, x.known)
		}
		want := stateOf(x.known)
		if f.State() != nil && !bytes.Equal(codec.State(f.State()), codec.State(want)) {
			t.Errorf("%s: another state", x.name)
		}
	}
}

// P27.4: Receive of whole states.
func TestReceiveWhole(t *testing.T) {
	var f follow.Follower
	wrong := whole(4)
	wrong.Num = 5
	low := whole(9)
	low.Num = 3
	run(t, &f, []step{
		{"junk", follow.Message{Kind: follow.Whole, Num: 1, L: [][]byte{{1, 2}}}, api.ErrBad, 0}, {"another Num", wrong, api.ErrBad, 0}, {"the empty state", whole(0), api.OK, 0},
		{"the empty state again", whole(0), api.ErrTwice, 0}, {"four", whole(4), api.OK, 4}, {"four again", whole(4), api.ErrTwice, 4}, {"three", whole(3), api.ErrTwice, 4},
		{"another Num", wrong, api.ErrBad, 4}, {"junk of old", follow.Message{Kind: follow.Whole, Num: 1, L: [][]byte{{}}}, api.ErrBad, 4}, {"old Num, new state", low, api.ErrBad, 4}, {"nine", whole(9), api.OK, 9},
	})
	if f.State() == nil {
		t.Error("no state")
	}
}

// P27.4, example 1: Receive of operations.
func TestReceiveOps(t *testing.T) {
	var f follow.Follower
	run(t, &f, []step{{"nothing is known", ops(0, 3), api.ErrNone, 0}, {"nothing is known", ops(1, 3), api.ErrNone, 0}})
	f.Receive(whole(5))
	junk, foreign, late := ops(5, 7), ops(5, 7), ops(3, 7)
	junk.L[1] = []byte{1}
	foreign.L[1] = codec.Op(config.Op{Kind: config.SetMembers, Vip: 9})
	late.L[0], late.L[1] = []byte{1}, nil
	run(t, &f, []step{
		{"behind what is known", ops(6, 8), api.ErrNone, 5}, {"all known", ops(2, 5), api.ErrTwice, 5}, {"all known", ops(1, 4), api.ErrTwice, 5}, {"the first one", ops(0, 1), api.ErrTwice, 5},
		{"no operation", junk, api.ErrBad, 5}, {"cannot be applied", foreign, api.ErrBad, 5}, {"junk that is known", late, api.OK, 7}, {"the next one", ops(7, 8), api.OK, 8},
		{"one of two known", ops(7, 9), api.OK, 9}, {"fifteen of sixteen known", ops(0, 10), api.OK, 10}, {"Num of all ones", follow.Message{Kind: follow.Ops, Num: 1<<64 - 1, L: parts(2, 1)}, api.ErrNone, 10},
		{"sixteen", ops(10, 26), api.OK, 26}, {"none", follow.Message{Kind: follow.Ops, Num: 26}, api.ErrArg, 26},
	})
}

// P27.4: the sum of Num and the number of parts does not wrap.
func TestReceiveGreat(t *testing.T) {
	s := stateOf(3)
	s.Num = 1<<64 - 2
	var f follow.Follower
	if e := f.Receive(follow.Message{Kind: follow.Whole, Num: s.Num, L: [][]byte{codec.State(s)}}); e != api.OK {
		t.Fatalf("Receive %d", e)
	}
	if e := f.Receive(follow.Message{Kind: follow.Ops, Num: 1<<64 - 2, L: [][]byte{{1}, {2}, {3}}}); e != api.ErrBad || f.Known() != 1<<64-2 {
		t.Errorf("three operations: %d", e)
	}
	if e := f.Receive(follow.Message{Kind: follow.Ops, Num: 1<<64 - 3, L: [][]byte{{1}}}); e != api.ErrTwice {
		t.Errorf("a known operation: %d", e)
	}
}

// P27.4: messages that are not valid, and Acks; a nil follower.
func TestReceiveErrors(t *testing.T) {
	var f follow.Follower
	f.Receive(whole(2))
	for _, m := range []follow.Message{{}, {Kind: follow.Ack}, {Kind: follow.Ack, Num: 9}, {Kind: 4}, {Kind: follow.Whole}, {Kind: follow.Ops, Num: 2, L: parts(17, 1)}, {Kind: follow.Whole, Num: 2, L: parts(2, 1)}} {
		if e := f.Receive(m); e != api.ErrArg || f.Known() != 2 {
			t.Errorf("%+v: %d", m, e)
		}
	}
	var none *follow.Follower
	none.Forget()
	if none.State() != nil || none.Known() != 0 || !sameMessage(none.Ack(), follow.Message{Kind: follow.Ack}) {
		t.Error("nil follower")
	}
	if none.Receive(whole(1)) != api.ErrNil || none.Receive(follow.Message{}) != api.ErrNil {
		t.Error("Receive of a nil follower")
	}
}

// P27.5: whichever offers arrive, in any order and any number of times, the state is that of a prefix.
func TestAnyOrder(t *testing.T) {
	rnd := rand.New(rand.NewSource(1))
	for range 30 {
		c := controller(t, 0)
		var f follow.Follower
		var all []follow.Message
		for range 150 {
			c.Issue(backend(int(c.State().Num)%64 + 1))
			c.Commit()
			if m, ok := follow.Offer(c, uint64(rnd.Intn(int(c.State().Num)+1))); ok {
				all = append(all, m)
			}
			if m, ok := follow.Offer(c, f.Known()); ok && rnd.Intn(3) == 0 {
				all = append(all, m)
			}
			if len(all) == 0 {
				continue
			}
			was := f.Known()
			m, e := follow.Parse(all[rnd.Intn(len(all))].Bytes())
			if e != api.OK {
				t.Fatalf("Parse %d", e)
			}
			e = f.Receive(m)
			if e == api.OK && f.Known() <= was || e != api.OK && f.Known() != was || e == api.ErrBad {
				t.Fatalf("Receive %d: Known %d after %d", e, f.Known(), was)
			}
			if f.State() != nil && !bytes.Equal(codec.State(f.State()), codec.State(stateOf(int(f.Known())))) {
				t.Fatalf("another state than that of %d operations", f.Known())
			}
		}
		if f.Known() == 0 {
			t.Error("nothing arrived")
		}
	}
}
