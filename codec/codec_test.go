package codec_test

import (
	"bytes"
	"math/rand"
	"slices"
	"testing"

	"counterfoil/addr"
	"counterfoil/api"
	"counterfoil/codec"
	"counterfoil/config"
	"counterfoil/octet"
	"counterfoil/ring"
	"counterfoil/siphash"
	"counterfoil/stack"
	"counterfoil/table"
)

var known = config.Op{
	Kind: 1, Vip: 2, Backend: 3, Version: 4, Addr: addr.V4(5, 6, 7, 8), Port: 0x090a, Proto: 11, Way: 12,
	Members: []config.Member{{Backend: 13, Weight: 14}, {Backend: 255, Weight: 255}},
}

var knownBytes = []byte{1, 2, 3, 4, 4, 5, 6, 7, 8, 9, 10, 11, 12, 2, 13, 14, 255, 255}

func with(b []byte, at int, c byte) []byte {
	out := bytes.Clone(b)
	out[at] = c
	return out
}

func sameOp(a, b config.Op) bool {
	ok := slices.Equal(a.Members, b.Members)
	a.Members, b.Members = nil, nil
	return ok && a.Kind == b.Kind && a.Vip == b.Vip && a.Backend == b.Backend && a.Version == b.Version && a.Addr == b.Addr && a.Port == b.Port && a.Proto == b.Proto && a.Way == b.Way
}

// P23.1: the encoding of operations, example 1 among them.
func TestOp(t *testing.T) {
	if got := codec.Op(known); !bytes.Equal(got, knownBytes) || !codec.Right(known) {
		t.Errorf("Op %x", got)
	}
	if got := codec.Op(config.Op{Kind: 8}); !bytes.Equal(got, []byte{8, 0, 0, 0, 4, 0, 0, 0, 0, 0, 0, 0, 0, 0}) {
		t.Errorf("example 1: %x", got)
	}
	six := config.Op{Kind: 2, Addr: addr.V6(0x0102030405060708, 0x090a0b0c0d0e0f10)}
	want := []byte{2, 0, 0, 0, 16, 1, 2, 3, 4, 5, 6, 7, 8, 9, 10, 11, 12, 13, 14, 15, 16, 0, 0, 0, 0, 0}
	if got := codec.Op(six); !bytes.Equal(got, want) {
		t.Errorf("Op of IPv6: %x", got)
	}
}

// P23.1: the bounds of valid operations; Op of any other one is nothing.
func TestRight(t *testing.T) {
	for name, change := range map[string]func(o *config.Op, n int){
		"Kind": func(o *config.Op, n int) { o.Kind = n }, "Vip": func(o *config.Op, n int) { o.Vip = n }, "Backend": func(o *config.Op, n int) { o.Backend = n },
		"Version": func(o *config.Op, n int) { o.Version = n }, "Way": func(o *config.Op, n int) { o.Way = n },
		"member": func(o *config.Op, n int) { o.Members = []config.Member{{}, {Backend: n}} }, "weight": func(o *config.Op, n int) { o.Members = []config.Member{{}, {Weight: n}} },
	} {
		for n, want := range map[int]bool{0: true, 255: true, 128: true, 256: false, -1: false, 1 << 40: false, -1 << 63: false} {
			o := known
			change(&o, n)
			if codec.Right(o) != want || (len(codec.Op(o)) > 0) != want {
				t.Errorf("%s %d: Right %v", name, n, codec.Right(o))
			}
			if got, e := codec.ParseOp(codec.Op(o)); want && (e != api.OK || !sameOp(got, o)) {
				t.Errorf("%s %d: ParseOp %+v %d", name, n, got, e)
			}
		}
	}
	for _, a := range []api.Addr{{High: 1}, {Low: 1 << 32}} {
		if o := (config.Op{Addr: a}); codec.Right(o) || len(codec.Op(o)) > 0 {
			t.Errorf("address %+v", a)
		}
	}
	for n, want := range map[int]bool{0: true, 64: true, 65: false, 256: false} {
		o := config.Op{Members: make([]config.Member, n)}
		if codec.Right(o) != want || (len(codec.Op(o)) == 14+2*n) != want {
			t.Errorf("%d members: %v", n, codec.Right(o))
		}
	}
}

// P23.2: ParseOp accepts encodings only.
func TestParseOp(t *testing.T) {
	if o, e := codec.ParseOp(knownBytes); e != api.OK || !sameOp(o, known) {
		t.Errorf("ParseOp %+v %d", o, e)
	}
	bad := map[string][]byte{
		"one byte more": append(bytes.Clone(knownBytes), 0), "address of 5": append(with(knownBytes, 4, 5), 0), "address of 0": slices.Delete(with(knownBytes, 4, 0), 5, 9),
		"address of 16": with(knownBytes, 4, 16), "one member less": with(knownBytes, 13, 1), "one member more": with(knownBytes, 13, 3),
		"65 members": append(with(knownBytes[:14], 13, 65), make([]byte, 130)...),
	}
	bad["65 members, none there"] = with(knownBytes[:14], 13, 65)
	for n := range knownBytes {
		bad["the first "+addr.Decimal(n)] = knownBytes[:n]
	}
	for name, b := range bad {
		if o, e := codec.ParseOp(b); e != api.ErrForm || !sameOp(o, config.Op{}) {
			t.Errorf("%s: %+v %d", name, o, e)
		}
	}
	if o, e := codec.ParseOp(append(with(knownBytes[:14], 13, 64), make([]byte, 128)...)); e != api.OK || len(o.Members) != 64 {
		t.Errorf("64 members: %d", e)
	}
}

var key = siphash.Of(0x0102030405060708, 0x090a0b0c0d0e0f10)

func op(t *testing.T, s *config.State, o config.Op) {
	t.Helper()
	if e := s.Apply(o); e != api.OK {
		t.Fatalf("Apply of %+v: %d", o, e)
	}
}

// rich returns a state with everything in it.
func rich(t *testing.T) *config.State {
	s := config.New(key)
	op(t, s, config.Op{Kind: config.AddBackend, Backend: 1, Addr: addr.V4(10, 0, 2, 1)})
	op(t, s, config.Op{Kind: config.AddBackend, Backend: 64, Addr: addr.V6(1, 2)})
	op(t, s, config.Op{Kind: config.AddVip, Addr: addr.V4(192, 0, 2, 1), Port: 443, Proto: 6, Way: 2})
	op(t, s, config.Op{Kind: config.AddVip, Addr: addr.V6(3, 4), Port: 0x1234, Proto: 17, Way: 4})
	op(t, s, config.Op{Kind: config.SetMembers, Members: []config.Member{{Backend: 1, Weight: 7}, {Backend: 64, Weight: 100}}})
	op(t, s, config.Op{Kind: config.SetMembers, Members: []config.Member{{Backend: 64, Weight: 0}}})
	op(t, s, config.Op{Kind: config.Evict, Backend: 64})
	op(t, s, config.Op{Kind: config.Retire, Version: 0})
	op(t, s, config.Op{Kind: config.Rotate})
	return s
}

var richBytes = slices.Concat(
	[]byte{0, 0, 0, 0, 0, 0, 0, 9}, []byte{1, 2, 3, 4, 5, 6, 7, 8, 9, 10, 11, 12, 13, 14, 15, 16, 0, 0, 0, 0, 0, 0, 0, 1},
	[]byte{1, 4, 10, 0, 2, 1}, []byte{64, 16, 0, 0, 0, 0, 0, 0, 0, 1, 0, 0, 0, 0, 0, 0, 0, 2}, []byte{0, 2},
	[]byte{4, 192, 0, 2, 1, 1, 187, 6, 2, 1, 64, 0}, []byte{0, 10, 1, 1, 0, 2, 129, 64, 1, 64, 1, 0},
	[]byte{16, 0, 0, 0, 0, 0, 0, 0, 3, 0, 0, 0, 0, 0, 0, 0, 4, 0x12, 0x34, 17, 4, 0}, []byte{0, 4, 0, 1, 64, 0},
)

// P23.3: the encoding of a state, byte by byte.
func TestState(t *testing.T) {
	if got := codec.State(rich(t)); !bytes.Equal(got, richBytes) {
		t.Errorf("State %x, want %x", got, richBytes)
	}
	empty := slices.Concat(make([]byte, 8), ring.New(key, 0).Bytes(), []byte{0, 0})
	if got := codec.State(config.New(key)); !bytes.Equal(got, empty) {
		t.Errorf("State of the empty state: %x", got)
	}
	if len(codec.State(nil)) != 0 {
		t.Error("State of nil")
	}
	if s, e := codec.ParseState(empty); e != api.OK || s.Num != 0 || s.Len() != 0 || s.Ring != ring.New(key, 0) {
		t.Errorf("ParseState of the empty state: %d", e)
	}
}

// P23.4: ParseState returns the whole state.
func TestParseState(t *testing.T) {
	s, e := codec.ParseState(richBytes)
	if e != api.OK || !bytes.Equal(codec.State(s), richBytes) {
		t.Fatalf("ParseState %d: %x", e, codec.State(s))
	}
	if s.Num != 9 || s.Ring != ring.New(key, 1) || s.Len() != 2 {
		t.Errorf("Num %d, epoch %d", s.Num, s.Ring.Epoch())
	}
	if a, ok := s.Backend(64); !ok || a != addr.V6(1, 2) {
		t.Errorf("backend 64: %+v", a)
	}
	v, _ := s.Vip(0)
	if v.Addr != addr.V4(192, 0, 2, 1) || v.Port != 443 || v.Proto != 6 || v.Way != 2 || !slices.Equal(v.Members, []config.Member{{Backend: 64}}) || !slices.Equal(v.Tables.Busy(), []int{0}) {
		t.Errorf("service 0: %+v", v)
	}
	if v, _ := s.Vip(1); v.Addr != addr.V6(3, 4) || v.Port != 0x1234 || v.Proto != 17 || v.Way != 4 || !v.Tables.Evicted(64) {
		t.Errorf("service 1: %+v", v)
	}
	max := bytes.Clone(richBytes)
	copy(max, bytes.Repeat([]byte{255}, 8))
	copy(max[24:], bytes.Repeat([]byte{255}, 8))
	if s, e := codec.ParseState(max); e != api.OK || s.Num != 1<<64-1 || s.Ring.Epoch() != 1<<64-1 {
		t.Errorf("greatest numbers: %d", e)
	}
}

// P23.4: everything that is not an encoding is refused.
func TestParseStateErrors(t *testing.T) {
	// The beginnings of parts: backends at 32, the first service at 58, the second one at 82.
	bad := map[string][]byte{
		"one byte more": append(bytes.Clone(richBytes), 0), "backend 65": with(richBytes, 38, 65), "backend twice": with(richBytes, 38, 1), "backend address of 5": with(richBytes, 33, 5),
		"backends falling": with(richBytes, 32, 65), "one service less": with(richBytes, 57, 1), "one service more": with(richBytes, 57, 3), "service address of 3": with(richBytes, 58, 3),
		"protocol 1": with(richBytes, 65, 1), "policy 5": with(richBytes, 66, 5), "policy 0": with(richBytes, 66, 0), "member unknown": with(richBytes, 68, 2),
		"weight 101": with(richBytes, 69, 101), "members missing": with(richBytes, 67, 2), "tables too short": with(richBytes, 71, 9), "tables too long": with(richBytes, 71, 11),
		"evicted unknown": with(richBytes, 79, 63), "evicted in one only": with(richBytes, 79, 1), "owner 65": with(richBytes, 77, 65), "second evicted other": with(richBytes, 108, 1),
	}
	for n := range richBytes {
		bad["the first "+addr.Decimal(n)] = richBytes[:n]
	}
	for name, b := range bad {
		if s, e := codec.ParseState(b); e != api.ErrForm || s != nil {
			t.Errorf("%s: %d", name, e)
		}
	}
	swapped := slices.Concat(richBytes[:32], richBytes[38:56], richBytes[32:38], richBytes[56:])
	if s, e := codec.ParseState(swapped); e != api.ErrForm || s != nil {
		t.Errorf("backends in falling order: %d", e)
	}
	if s, e := codec.ParseState(with(richBytes, 69, 100)); e != api.OK || s == nil {
		t.Errorf("weight 100: %d", e)
	}
}

// service returns the encoding of a service without members and tables.
func service(port uint16, tables []byte) []byte {
	b := octet.Put([]byte{4, 1, 2, 3, 4}, uint64(port), 2)
	return slices.Concat(b, []byte{6, 1, 0}, octet.Put(nil, uint64(len(tables)), 2), tables)
}

// P23.4: services that AddVip would reject after those before them.
func TestParseStateServices(t *testing.T) {
	front := slices.Concat(make([]byte, 32), []byte{7, 4, 1, 1, 1, 1}, []byte{9, 4, 1, 1, 1, 1}, []byte{0})
	many := func(n int) []byte {
		b := append(bytes.Clone(front), byte(n))
		for p := range n {
			b = append(b, service(uint16(p), []byte{0, 0, 0})...)
		}
		return b
	}
	for n, want := range map[int]api.Errno{0: api.OK, 16: api.OK, 17: api.ErrForm} {
		if s, e := codec.ParseState(many(n)); e != want || e == api.OK && s.Len() != n {
			t.Errorf("%d services: %d", n, e)
		}
	}
	pair := func(a, b []byte) []byte { return slices.Concat(front, []byte{2}, a, b) }
	none, seven, both := []byte{0, 0, 0}, []byte{0, 1, 7, 0}, []byte{0, 2, 7, 9, 0}
	for name, x := range map[string]struct {
		b    []byte
		want api.Errno
	}{
		"two": {pair(service(1, none), service(2, none)), api.OK}, "the same twice": {pair(service(1, none), service(1, none)), api.ErrForm},
		"both evict": {pair(service(1, both), service(2, both)), api.OK}, "the first evicts": {pair(service(1, seven), service(2, none)), api.ErrForm},
		"the second evicts": {pair(service(1, none), service(2, seven)), api.ErrForm}, "the second evicts more": {pair(service(1, seven), service(2, both)), api.ErrForm},
		"the second evicts less": {pair(service(1, both), service(2, seven)), api.ErrForm}, "busy versions differ": {pair(service(1, []byte{0, 0, 1, 3}), service(2, none)), api.OK},
		"no tables": {pair(service(1, nil), service(2, none)), api.ErrForm},
	} {
		if s, e := codec.ParseState(x.b); e != x.want || e == api.OK && !bytes.Equal(codec.State(s), x.b) {
			t.Errorf("%s: %d, want %d", name, e, x.want)
		}
	}
}

// P23.4: parts that are wrong, in states that would be right without them.
func TestParseStateParts(t *testing.T) {
	one, two, zeros := []byte{7, 4, 1, 1, 1, 1}, []byte{9, 4, 1, 1, 1, 1}, make([]byte, 32)
	tables := []byte{0, 3, 0, 0, 0}
	for name, x := range map[string]struct {
		parts [][]byte
		want  api.Errno
	}{
		"two backends": {[][]byte{one, two, {0, 0}}, api.OK}, "the same twice": {[][]byte{one, one, {0, 0}}, api.ErrForm}, "falling": {[][]byte{two, one, {0, 0}}, api.ErrForm},
		"falling, no end": {[][]byte{two, one, {0}}, api.ErrForm}, "backend 65, no end": {[][]byte{{65, 4, 1, 1, 1, 1}, {0}}, api.ErrForm}, "backend without address": {[][]byte{{7, 0}, {0, 0}}, api.ErrForm},
		"a service": {[][]byte{{0, 1, 4, 1, 2, 3, 4, 0, 80, 6, 1, 0}, tables}, api.OK}, "address of 3": {[][]byte{{0, 1, 3, 1, 2, 3, 0, 80, 6, 1, 0}, tables}, api.ErrForm},
		"65 members, none there": {[][]byte{{0, 1, 4, 1, 2, 3, 4, 0, 80, 6, 1, 65}, tables}, api.ErrForm}, "no end of backends": {[][]byte{one}, api.ErrForm},
	} {
		s, e := codec.ParseState(slices.Concat(zeros, slices.Concat(x.parts...)))
		if e != x.want || (s != nil) != (e == api.OK) {
			t.Errorf("%s: %d, want %d", name, e, x.want)
		}
	}
}

// P23.5: ParseOp inverts Op, and ParseState inverts State.
func TestInverse(t *testing.T) {
	rnd := rand.New(rand.NewSource(1))
	for range 100 {
		s := config.New(siphash.Of(rnd.Uint64(), rnd.Uint64()))
		for range 100 {
			o := config.Op{Kind: rnd.Intn(10), Vip: rnd.Intn(4), Backend: rnd.Intn(8), Version: rnd.Intn(8), Port: uint16(rnd.Intn(4)), Proto: []uint8{6, 17}[rnd.Intn(2)], Way: rnd.Intn(5)}
			o.Addr = api.Addr{Low: uint64(rnd.Intn(3))}
			if rnd.Intn(2) == 0 {
				o.Addr = addr.V6(rnd.Uint64(), rnd.Uint64())
			}
			for range rnd.Intn(4) {
				o.Members = append(o.Members, config.Member{Backend: rnd.Intn(8), Weight: rnd.Intn(102)})
			}
			if got, e := codec.ParseOp(codec.Op(o)); e != api.OK || !sameOp(got, o) {
				t.Fatalf("ParseOp %+v %d, want %+v", got, e, o)
			}
			s.Apply(o)
		}
		b := codec.State(s)
		got, e := codec.ParseState(b)
		if e != api.OK || !bytes.Equal(codec.State(got), b) || got.Num != s.Num || got.Ring != s.Ring || got.Len() != s.Len() {
			t.Fatalf("ParseState %d of %x", e, b)
		}
		compare(t, s, got)
	}
}

// compare compares what two states show of backends and services.
func compare(t *testing.T, a, b *config.State) {
	t.Helper()
	for n := range 66 {
		x, okX := a.Backend(n)
		y, okY := b.Backend(n)
		if x != y || okX != okY {
			t.Fatalf("backend %d: %+v %+v", n, x, y)
		}
	}
	for i := range a.Len() {
		x, _ := a.Vip(i)
		y, _ := b.Vip(i)
		if x.Addr != y.Addr || x.Port != y.Port || x.Proto != y.Proto || x.Way != y.Way || !slices.Equal(x.Members, y.Members) || !slices.Equal(x.Tables.Versions(), y.Tables.Versions()) {
			t.Fatalf("service %d: %+v %+v", i, x, y)
		}
		for _, n := range x.Tables.Versions() {
			p, _ := x.Tables.Get(n)
			q, _ := y.Tables.Get(n)
			if !table.Same(p, q) {
				t.Fatalf("service %d, version %d", i, n)
			}
		}
	}
}

// P23.3, P23.5: the greatest state still fits.
func TestGreatest(t *testing.T) {
	s := config.New(key)
	var all []config.Member
	for n := 1; n <= 64; n++ {
		op(t, s, config.Op{Kind: config.AddBackend, Backend: n, Addr: addr.V6(uint64(n), 1)})
		all = append(all, config.Member{Backend: n, Weight: 100})
	}
	full := &stack.Stack{}
	for range 8 {
		full.Push(table.Table{}.Next(slices.Collect(func(yield func(int) bool) {
			for _, m := range all {
				yield(m.Backend)
			}
		})...))
	}
	for n := 1; n <= 64; n++ {
		full.Evict(n)
	}
	for i := range 16 {
		op(t, s, config.Op{Kind: config.AddVip, Addr: addr.V6(9, 9), Port: uint16(i), Proto: 6, Way: 1})
		if i == 0 {
			for n := 1; n <= 64; n++ {
				op(t, s, config.Op{Kind: config.Evict, Backend: n})
			}
		}
		if e := s.Restore(all, full); e != api.OK {
			t.Fatalf("Restore: %d", e)
		}
	}
	b := codec.State(s)
	if got, e := codec.ParseState(b); e != api.OK || !bytes.Equal(codec.State(got), b) || len(b) > 65535 {
		t.Errorf("ParseState %d of %d bytes", e, len(b))
	}
}
