package config_test

import (
	"bytes"
	"math/rand"
	"slices"
	"testing"

	"counterfoil/addr"
	"counterfoil/api"
	"counterfoil/config"
	"counterfoil/policy"
	"counterfoil/ring"
	"counterfoil/siphash"
	"counterfoil/stack"
	"counterfoil/table"
)

var (
	key  = siphash.Of(1, 2)
	vip4 = addr.V4(192, 0, 2, 1)
	vip6 = addr.V6(0x20010db8, 1)
)

func backend(n int) config.Op {
	return config.Op{Kind: config.AddBackend, Backend: n, Addr: addr.V4(10, 0, 2, byte(n))}
}

func service(port uint16) config.Op {
	return config.Op{Kind: config.AddVip, Addr: vip4, Port: port, Proto: 6, Way: policy.Turns}
}

func members(vip int, l ...int) config.Op {
	o := config.Op{Kind: config.SetMembers, Vip: vip}
	for _, n := range l {
		o.Members = append(o.Members, config.Member{Backend: n, Weight: n})
	}
	return o
}

// apply applies operations that must all succeed.
func apply(t *testing.T, s *config.State, l ...config.Op) {
	t.Helper()
	for _, o := range l {
		was := s.Num
		if e := s.Apply(o); e != api.OK || s.Num != was+1 {
			t.Fatalf("Apply of %+v: %d, Num %d after %d", o, e, s.Num, was)
		}
	}
}

// refuse applies an operation that must fail and change nothing.
func refuse(t *testing.T, s *config.State, o config.Op, want api.Errno) {
	t.Helper()
	before := picture(s)
	if e := s.Apply(o); e != want {
		t.Errorf("Apply of %+v: %d, want %d", o, e, want)
	}
	if picture(s) != before {
		t.Errorf("Apply of %+v: an error changed the state", o)
	}
}

// picture tells everything that a state shows.
func picture(s *config.State) string {
	var b bytes.Buffer
	put := func(l ...uint64) {
		for _, n := range l {
			b.WriteString(addr.Decimal(int(n>>32)) + "." + addr.Decimal(int(n&0xffffffff)) + " ")
		}
	}
	put(s.Num, s.Ring.Epoch())
	b.Write(s.Ring.Bytes())
	for n := -1; n < 70; n++ {
		if a, ok := s.Backend(n); ok {
			put(uint64(n))
			b.WriteString(addr.Text(a) + " ")
		}
	}
	for i := range s.Len() {
		v, _ := s.Vip(i)
		b.WriteString(addr.Text(v.Addr) + " ")
		put(uint64(v.Port), uint64(v.Proto), uint64(v.Way))
		for _, m := range v.Members {
			put(uint64(m.Backend), uint64(m.Weight))
		}
		b.Write(v.Tables.Bytes())
	}
	return b.String()
}

func start(t *testing.T, ports ...uint16) *config.State {
	s := config.New(key)
	for n := 1; n <= 4; n++ {
		apply(t, s, backend(n))
	}
	for _, p := range ports {
		apply(t, s, service(p))
	}
	return s
}

// P22.1: an empty state.
func TestNew(t *testing.T) {
	s := config.New(key)
	if s.Num != 0 || s.Ring != ring.New(key, 0) || s.Len() != 0 || s.Serves(vip4) || s.Serves(api.Addr{}) || s.Find(vip4, 1, 6) != -1 || s.Find(api.Addr{}, 0, 0) != -1 {
		t.Error("something is there")
	}
	for n := -1; n < 70; n++ {
		if a, ok := s.Backend(n); ok || a != (api.Addr{}) {
			t.Errorf("backend %d", n)
		}
		if v, ok := s.Vip(n); ok || v.Tables != nil || v.Way != 0 {
			t.Errorf("service %d", n)
		}
	}
}

// P22.2: AddBackend, and its errors.
func TestAddBackend(t *testing.T) {
	s := config.New(key)
	apply(t, s, backend(1), backend(64), config.Op{Kind: config.AddBackend, Backend: 7, Addr: vip6}, config.Op{Kind: config.AddBackend, Backend: 8})
	for n, want := range map[int]api.Addr{1: addr.V4(10, 0, 2, 1), 64: addr.V4(10, 0, 2, 64), 7: vip6, 8: {}} {
		if a, ok := s.Backend(n); !ok || a != want {
			t.Errorf("backend %d: %+v %v", n, a, ok)
		}
	}
	for _, n := range []int{0, 2, 63, 65, -1} {
		if a, ok := s.Backend(n); ok || a != (api.Addr{}) {
			t.Errorf("backend %d: %+v %v", n, a, ok)
		}
	}
	apply(t, s, config.Op{Kind: config.AddBackend, Backend: 1, Addr: vip6})
	if a, ok := s.Backend(1); !ok || a != vip6 {
		t.Errorf("a replaced address: %+v %v", a, ok)
	}
	for _, n := range []int{0, -1, 65, 256, 1 << 40} {
		refuse(t, s, config.Op{Kind: config.AddBackend, Backend: n, Addr: vip4}, api.ErrArg)
	}
	refuse(t, s, config.Op{Kind: config.AddBackend, Backend: 2, Addr: api.Addr{High: 1}}, api.ErrArg)
	refuse(t, s, config.Op{Kind: config.AddBackend, Backend: 1, Addr: api.Addr{Low: 1 << 32}}, api.ErrArg)
}

// P22.2: AddVip, in the order of addition, and its errors in their order.
func TestAddVip(t *testing.T) {
	s := config.New(key)
	ops := []config.Op{
		{Kind: config.AddVip, Addr: vip4, Port: 443, Proto: 6, Way: policy.Weights}, {Kind: config.AddVip, Addr: vip4, Port: 443, Proto: 17, Way: policy.Draws},
		{Kind: config.AddVip, Addr: vip4, Port: 80, Proto: 6, Way: policy.Turns}, {Kind: config.AddVip, Addr: vip6, Port: 443, Proto: 6, Way: policy.Loads},
	}
	for i, o := range ops {
		o.Vip, o.Version, o.Backend, o.Members = 99, 99, 99, []config.Member{{Backend: 1, Weight: 1}}
		apply(t, s, o)
		v, ok := s.Vip(i)
		if !ok || v.Addr != o.Addr || v.Port != o.Port || v.Proto != o.Proto || v.Way != o.Way || len(v.Members) != 0 || v.Tables == nil || v.Tables.Len() != 0 || s.Len() != i+1 {
			t.Errorf("service %d: %+v %v", i, v, ok)
		}
	}
	for i, o := range ops {
		if n := s.Find(o.Addr, o.Port, o.Proto); n != i {
			t.Errorf("Find of service %d: %d", i, n)
		}
		refuse(t, s, o, api.ErrTwice)
		o.Way = 5
		refuse(t, s, o, api.ErrArg)
	}
	if s.Find(vip4, 80, 17) != -1 || s.Find(vip6, 80, 6) != -1 || s.Find(addr.V6(0, vip4.Low), 443, 6) != -1 || s.Find(vip4, 81, 6) != -1 {
		t.Error("Find of no service")
	}
	if !s.Serves(vip4) || !s.Serves(vip6) || s.Serves(addr.V4(192, 0, 2, 2)) || s.Serves(addr.V6(0, vip4.Low)) {
		t.Error("Serves")
	}
	for _, o := range []config.Op{
		{Addr: api.Addr{High: 1}, Port: 1, Proto: 6, Way: 1}, {Addr: vip4, Port: 1, Proto: 1, Way: 1}, {Addr: vip4, Port: 1, Proto: 0, Way: 1}, {Addr: vip4, Port: 1, Proto: 58, Way: 1},
		{Addr: vip4, Port: 1, Proto: 6, Way: 0}, {Addr: vip4, Port: 1, Proto: 17, Way: 5}, {Addr: vip4, Port: 1, Proto: 6, Way: -1},
	} {
		o.Kind = config.AddVip
		refuse(t, s, o, api.ErrArg)
	}
}

// P22.2: at most 16 services: ErrTwice ahead of ErrFull.
func TestAddVipFull(t *testing.T) {
	s := config.New(key)
	for p := range 16 {
		apply(t, s, service(uint16(p)))
	}
	refuse(t, s, service(16), api.ErrFull)
	refuse(t, s, service(15), api.ErrTwice)
	bad := service(16)
	bad.Way = 0
	refuse(t, s, bad, api.ErrArg)
	if _, ok := s.Vip(15); !ok || s.Len() != 16 {
		t.Error("the last service")
	}
	if _, ok := s.Vip(16); ok {
		t.Error("one service too many")
	}
}

// P22.2: Rotate.
func TestRotate(t *testing.T) {
	s := config.New(key)
	for n := uint64(1); n < 4; n++ {
		apply(t, s, config.Op{Kind: config.Rotate, Vip: -5})
		if s.Ring != ring.New(key, n) {
			t.Errorf("epoch %d, want %d", s.Ring.Epoch(), n)
		}
	}
}

// P22.3, example 1: SetMembers replaces the members and pushes the next table.
func TestSetMembers(t *testing.T) {
	s := start(t, 80, 81)
	apply(t, s, members(1, 3, 1))
	v, _ := s.Vip(1)
	version, newest, ok := v.Tables.Newest()
	if !ok || version != 0 || !table.Same(newest, table.Table{}.Next(3, 1)) || !slices.Equal(v.Members, []config.Member{{Backend: 3, Weight: 3}, {Backend: 1, Weight: 1}}) {
		t.Errorf("first members: %d %v", version, v.Members)
	}
	if v, _ := s.Vip(0); len(v.Members) != 0 || v.Tables.Len() != 0 {
		t.Error("another service has them, too")
	}
	apply(t, s, members(1, 4, 1, 2))
	v, _ = s.Vip(1)
	version, newest, _ = v.Tables.Newest()
	if version != 1 || !table.Same(newest, table.Table{}.Next(3, 1).Next(4, 1, 2)) || v.Tables.Len() != 2 {
		t.Errorf("second members: %d %v", version, newest.Members())
	}
	for n, want := range []int{0, 1, 2, 0, 4, 0} {
		if v.Weight(n) != want {
			t.Errorf("Weight of %d: %d", n, v.Weight(n))
		}
	}
	apply(t, s, members(1))
	v, _ = s.Vip(1)
	if version, newest, _ = v.Tables.Newest(); version != 2 || len(v.Members) != 0 || newest.Len() != 4 || len(newest.Members()) != 0 {
		t.Errorf("no members: %d %v", version, newest.Members())
	}
	double := config.Vip{Members: []config.Member{{Backend: 5, Weight: 7}, {Backend: 5, Weight: 9}}}
	if double.Weight(5) != 7 || double.Weight(6) != 0 {
		t.Error("Weight of the first member")
	}
}

// P22.3: the errors of SetMembers, in their order.
func TestSetMembersErrors(t *testing.T) {
	s := start(t, 80)
	apply(t, s, members(0, 1))
	for _, l := range [][]config.Member{
		{{Backend: 5, Weight: 1}}, {{Backend: 0, Weight: 1}}, {{Backend: 65, Weight: 1}}, {{Backend: -1, Weight: 1}}, {{Backend: 1, Weight: 101}}, {{Backend: 1, Weight: -1}},
		{{Backend: 1, Weight: 1}, {Backend: 1, Weight: 1}}, {{Backend: 1, Weight: 1}, {Backend: 2, Weight: 1}, {Backend: 1, Weight: 2}}, {{Backend: 1, Weight: 1}, {Backend: 2, Weight: 500}},
		make([]config.Member, 65),
	} {
		refuse(t, s, config.Op{Kind: config.SetMembers, Members: l}, api.ErrArg)
		refuse(t, s, config.Op{Kind: config.SetMembers, Members: l, Vip: 1}, api.ErrNone)
		refuse(t, s, config.Op{Kind: config.SetMembers, Members: l, Vip: -1}, api.ErrNone)
	}
	apply(t, s, config.Op{Kind: config.SetMembers, Members: []config.Member{{Backend: 1, Weight: 0}, {Backend: 2, Weight: 100}}})
	for range 6 {
		apply(t, s, members(0, 1, 2, 3))
	}
	refuse(t, s, members(0, 1), api.ErrFull)
	refuse(t, s, config.Op{Kind: config.SetMembers, Members: []config.Member{{Backend: 9}}}, api.ErrArg)
	all := config.New(key)
	apply(t, all, service(80))
	o := members(0)
	for n := 1; n <= 64; n++ {
		apply(t, all, backend(n))
		o.Members = append(o.Members, config.Member{Backend: n, Weight: 100})
	}
	apply(t, all, o)
	o.Members = append(o.Members, config.Member{Backend: 64, Weight: 100})
	refuse(t, all, o, api.ErrArg)
}

// P22.3: Retire and Release are those of the tables of the service.
func TestRetireRelease(t *testing.T) {
	s := start(t, 80, 81)
	apply(t, s, members(1, 1), members(1, 2), members(0, 3), members(0, 4))
	retire := func(vip, version int) config.Op { return config.Op{Kind: config.Retire, Vip: vip, Version: version} }
	release := func(vip, version int) config.Op {
		return config.Op{Kind: config.Release, Vip: vip, Version: version}
	}
	refuse(t, s, retire(1, 1), api.ErrArg)
	refuse(t, s, retire(1, 2), api.ErrVersion)
	refuse(t, s, retire(1, -1), api.ErrVersion)
	refuse(t, s, retire(2, 0), api.ErrNone)
	refuse(t, s, retire(-1, 0), api.ErrNone)
	refuse(t, s, release(1, 0), api.ErrNone)
	refuse(t, s, release(2, 0), api.ErrNone)
	apply(t, s, retire(1, 0))
	v0, _ := s.Vip(0)
	v1, _ := s.Vip(1)
	if !slices.Equal(v1.Tables.Versions(), []int{1}) || !slices.Equal(v1.Tables.Busy(), []int{0}) || v0.Tables.Len() != 2 {
		t.Errorf("after Retire: %v, busy %v", v1.Tables.Versions(), v1.Tables.Busy())
	}
	refuse(t, s, release(0, 0), api.ErrNone)
	refuse(t, s, release(1, 8), api.ErrNone)
	apply(t, s, release(1, 0))
	if v1, _ := s.Vip(1); len(v1.Tables.Busy()) != 0 || v1.Tables.Len() != 1 {
		t.Error("after Release")
	}
}

// P22.4: Evict and Admit reach all services, and those that are added later.
func TestEvictAdmit(t *testing.T) {
	s := start(t)
	evict := config.Op{Kind: config.Evict, Backend: 3, Vip: 77}
	admit := config.Op{Kind: config.Admit, Backend: 3, Vip: 77}
	refuse(t, s, config.Op{Kind: config.Evict, Backend: 5}, api.ErrNone)
	refuse(t, s, config.Op{Kind: config.Admit, Backend: 5}, api.ErrNone)
	refuse(t, s, config.Op{Kind: config.Evict, Backend: 0}, api.ErrNone)
	refuse(t, s, config.Op{Kind: config.Evict, Backend: 65}, api.ErrNone)
	refuse(t, s, evict, api.ErrArg)
	refuse(t, s, admit, api.ErrArg)
	apply(t, s, service(80), service(81))
	refuse(t, s, admit, api.ErrNone)
	refuse(t, s, config.Op{Kind: config.Evict, Backend: 5}, api.ErrNone)
	apply(t, s, evict)
	refuse(t, s, evict, api.ErrTwice)
	apply(t, s, backend(64), config.Op{Kind: config.Evict, Backend: 64}, config.Op{Kind: config.Evict, Backend: 1}, service(82))
	for i := range s.Len() {
		v, _ := s.Vip(i)
		for n := range 66 {
			if v.Tables.Evicted(n) != (n == 3 || n == 64 || n == 1) {
				t.Errorf("service %d, backend %d: %v", i, n, v.Tables.Evicted(n))
			}
		}
	}
	apply(t, s, admit)
	refuse(t, s, admit, api.ErrNone)
	for i := range s.Len() {
		if v, _ := s.Vip(i); v.Tables.Evicted(3) || !v.Tables.Evicted(64) {
			t.Errorf("service %d after Admit", i)
		}
	}
}

// P22.4: other kinds: ErrNone without the service, ErrArg otherwise.
func TestOtherKinds(t *testing.T) {
	s := start(t, 80)
	for _, kind := range []int{0, 9, -1, 255, 1 << 40} {
		refuse(t, s, config.Op{Kind: kind}, api.ErrArg)
		refuse(t, s, config.Op{Kind: kind, Vip: 1}, api.ErrNone)
		refuse(t, s, config.Op{Kind: kind, Vip: -1}, api.ErrNone)
	}
	kinds := []int{config.AddBackend, config.AddVip, config.SetMembers, config.Retire, config.Release, config.Evict, config.Admit, config.Rotate}
	if !slices.Equal(kinds, []int{1, 2, 3, 4, 5, 6, 7, 8}) {
		t.Errorf("kinds %v", kinds)
	}
}

// P22.1: a copy is independent; an operation's members are not retained.
func TestCopy(t *testing.T) {
	s := start(t, 80)
	o := members(0, 1, 2)
	apply(t, s, o)
	o.Members[0] = config.Member{Backend: 4, Weight: 99}
	if v, _ := s.Vip(0); v.Weight(1) != 1 || v.Weight(4) != 0 {
		t.Error("the state retains an operation's members")
	}
	before := picture(s)
	c := s.Copy()
	if picture(c) != before {
		t.Error("a copy differs")
	}
	more := []config.Op{members(0, 3), {Kind: config.Retire}, backend(9), service(90), {Kind: config.Evict, Backend: 1}, {Kind: config.Rotate}, {Kind: config.Release}, members(1, 9)}
	apply(t, c, more...)
	if picture(s) != before {
		t.Error("a change of the copy shows")
	}
	after := picture(c)
	apply(t, s, members(0, 4), members(0, 4), config.Op{Kind: config.AddBackend, Backend: 1, Addr: vip6}, service(91))
	if picture(c) != after || picture(s) == before {
		t.Error("a change shows in the copy")
	}
}

// P22.5: Restore gives the last service members and a copy of tables.
func TestRestore(t *testing.T) {
	s := start(t, 80)
	tables := &stack.Stack{}
	tables.Push(table.Table{}.Next(9, 2))
	tables.Evict(2)
	l := []config.Member{{Backend: 2, Weight: 0}, {Backend: 1, Weight: 100}}
	num := s.Num
	if e := s.Restore(l, tables); e != api.OK || s.Num != num {
		t.Errorf("Restore %d, Num %d", e, s.Num)
	}
	v, _ := s.Vip(0)
	if !bytes.Equal(v.Tables.Bytes(), tables.Bytes()) || !slices.Equal(v.Members, l) {
		t.Errorf("restored %+v", v)
	}
	tables.Push(table.Table{})
	l[0].Backend = 4
	if v, _ := s.Vip(0); v.Tables.Len() != 1 || v.Members[0].Backend != 2 {
		t.Error("Restore retains its arguments")
	}
	apply(t, s, service(81))
	tables.Evict(3)
	restoreErr(t, s, nil, tables)
	tables.Admit(3)
	if e := s.Restore(nil, tables); e != api.OK {
		t.Errorf("Restore of the second service: %d", e)
	}
	v0, _ := s.Vip(0)
	v1, _ := s.Vip(1)
	if v0.Tables.Len() != 1 || v1.Tables.Len() != 2 || len(v0.Members) != 2 || len(v1.Members) != 0 {
		t.Error("Restore reached another service")
	}
}

func restoreErr(t *testing.T, s *config.State, l []config.Member, tables *stack.Stack) {
	t.Helper()
	before := picture(s)
	if e := s.Restore(l, tables); e != api.ErrArg || picture(s) != before {
		t.Errorf("Restore of %v: %d", l, e)
	}
}

// P22.5: the errors of Restore.
func TestRestoreErrors(t *testing.T) {
	empty := config.New(key)
	if e := empty.Restore([]config.Member{{Backend: 99}}, nil); e != api.ErrNone {
		t.Errorf("no service: %d", e)
	}
	s := start(t, 80)
	restoreErr(t, s, nil, nil)
	for _, l := range [][]config.Member{{{Backend: 5}}, {{Backend: 1}, {Backend: 1}}, {{Backend: 1, Weight: 101}}, {{Backend: 1, Weight: -1}}, {{Backend: 0}}, make([]config.Member, 65)} {
		restoreErr(t, s, l, &stack.Stack{})
	}
	unknown := &stack.Stack{}
	unknown.Evict(5)
	restoreErr(t, s, nil, unknown)
	unknown.Evict(64)
	unknown.Admit(5)
	restoreErr(t, s, nil, unknown)
	apply(t, s, config.Op{Kind: config.Evict, Backend: 2}, service(81))
	restoreErr(t, s, nil, &stack.Stack{})
	other := &stack.Stack{}
	other.Evict(2)
	other.Evict(1)
	restoreErr(t, s, nil, other)
	other.Admit(1)
	if e := s.Restore(nil, other); e != api.OK {
		t.Errorf("the same evicted backends: %d", e)
	}
}

// A nil state contains nothing.
func TestNil(t *testing.T) {
	var s *config.State
	if s.Copy() != nil || s.Len() != 0 || s.Serves(vip4) || s.Find(vip4, 80, 6) != -1 {
		t.Error("something is there")
	}
	if a, ok := s.Backend(1); ok || a != (api.Addr{}) {
		t.Error("Backend")
	}
	if v, ok := s.Vip(0); ok || v.Tables != nil {
		t.Error("Vip")
	}
	if s.Apply(backend(1)) != api.ErrNil || s.Apply(config.Op{}) != api.ErrNil || s.Restore(nil, &stack.Stack{}) != api.ErrNone {
		t.Error("changes")
	}
}

// P22.4: Num counts what was applied, and the evicted backends of all services stay the same, whatever is applied.
func TestRandom(t *testing.T) {
	rnd := rand.New(rand.NewSource(1))
	for range 50 {
		s := config.New(key)
		count := uint64(0)
		for range 200 {
			o := config.Op{Kind: rnd.Intn(10), Vip: rnd.Intn(4) - 1, Backend: rnd.Intn(6), Version: rnd.Intn(4), Addr: vip4, Port: uint16(rnd.Intn(3)), Proto: 6, Way: 1}
			for range rnd.Intn(3) {
				o.Members = append(o.Members, config.Member{Backend: rnd.Intn(6), Weight: 1})
			}
			before := picture(s)
			if e := s.Apply(o); e == api.OK {
				count++
			} else if picture(s) != before {
				t.Fatalf("Apply of %+v: error %d changed the state", o, e)
			}
			if s.Num != count {
				t.Fatalf("Num %d, want %d", s.Num, count)
			}
			first, _ := s.Vip(0)
			for i := range s.Len() {
				v, _ := s.Vip(i)
				for n := range 7 {
					if v.Tables.Evicted(n) != first.Tables.Evicted(n) {
						t.Fatalf("backend %d is evicted in some services only", n)
					}
				}
			}
		}
	}
}
