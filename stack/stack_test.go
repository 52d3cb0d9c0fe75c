package stack_test

import (
	"bytes"
	"math/rand"
	"slices"
	"testing"

	"counterfoil/api"
	"counterfoil/stack"
	"counterfoil/table"
)

var zero table.Table

// full returns a stack with tables of the versions 0 to n-1, where version v has backend v+1 alone.
func full(n int) *stack.Stack {
	s := &stack.Stack{}
	for v := range n {
		s.Push(zero.Next(v + 1))
	}
	return s
}

// P15.1: what the zero Stack has.
func TestZero(t *testing.T) {
	s := &stack.Stack{}
	if s.Len() != 0 || len(s.Versions()) != 0 || len(s.Busy()) != 0 || s.Evicted(1) {
		t.Error("something is there")
	}
	if x, ok := s.Get(0); ok || x.Len() != 0 {
		t.Error("Get")
	}
	if v, x, ok := s.Newest(); ok || v != 0 || x.Len() != 0 {
		t.Error("Newest")
	}
	if v, ok := s.Free(); v != 0 || !ok {
		t.Error("Free")
	}
	if !bytes.Equal(s.Bytes(), []byte{0, 0, 0}) {
		t.Errorf("Bytes %x", s.Bytes())
	}
}

// P15.1, P15.2: tables with versions, oldest first.
func TestPush(t *testing.T) {
	s := &stack.Stack{}
	for v := range 8 {
		if n, ok := s.Free(); n != v || !ok {
			t.Errorf("Free %d %v, want %d", n, ok, v)
		}
		if n, e := s.Push(zero.Next(v+1, 50)); n != v || e != api.OK {
			t.Errorf("Push %d %d, want %d", n, e, v)
		}
		n, x, ok := s.Newest()
		if s.Len() != v+1 || n != v || !ok || !table.Same(x, zero.Next(v+1, 50)) {
			t.Errorf("Newest %d %v, Len %d", n, ok, s.Len())
		}
	}
	if n, ok := s.Free(); n != 0 || ok {
		t.Errorf("Free of a full stack: %d %v", n, ok)
	}
	if n, e := s.Push(zero); n != 0 || e != api.ErrFull || s.Len() != 8 {
		t.Errorf("Push onto a full stack: %d %d", n, e)
	}
	if !slices.Equal(s.Versions(), []int{0, 1, 2, 3, 4, 5, 6, 7}) {
		t.Errorf("Versions %v", s.Versions())
	}
	for v := -1; v < 9; v++ {
		x, ok := s.Get(v)
		if ok != (v >= 0 && v < 8) || ok && x.At(0) != v+1 || !ok && x.Len() != 0 {
			t.Errorf("Get(%d): %v", v, ok)
		}
	}
}

// P15.2, example 1: a retired version is busy until it is released.
func TestRetireRelease(t *testing.T) {
	s := full(2)
	if e := s.Retire(0); e != api.OK || !slices.Equal(s.Versions(), []int{1}) || !slices.Equal(s.Busy(), []int{0}) {
		t.Errorf("Retire %d: %v, busy %v", e, s.Versions(), s.Busy())
	}
	if v, e := s.Push(zero); v != 2 || e != api.OK {
		t.Errorf("Push %d %d", v, e)
	}
	if e := s.Release(0); e != api.OK || len(s.Busy()) != 0 {
		t.Errorf("Release %d: busy %v", e, s.Busy())
	}
	if v, e := s.Push(zero); v != 0 || e != api.OK || !slices.Equal(s.Versions(), []int{1, 2, 0}) {
		t.Errorf("Push %d %d: %v", v, e, s.Versions())
	}
	if e := s.Retire(2); e != api.OK || !slices.Equal(s.Versions(), []int{1, 0}) {
		t.Errorf("Retire of the middle: %d %v", e, s.Versions())
	}
	if v, x, ok := s.Newest(); v != 0 || !ok || x.Len() != 0 {
		t.Errorf("Newest %d %v", v, ok)
	}
}

// P15.2: ErrVersion ahead of ErrArg; Release of what is not busy.
func TestRetireReleaseErrors(t *testing.T) {
	s := full(3)
	for v, want := range map[int]api.Errno{2: api.ErrArg, 3: api.ErrVersion, -1: api.ErrVersion, 8: api.ErrVersion, 7: api.ErrVersion} {
		if e := s.Retire(v); e != want || s.Len() != 3 || len(s.Busy()) != 0 {
			t.Errorf("Retire(%d): %d", v, e)
		}
	}
	s.Retire(1)
	if e := s.Retire(1); e != api.ErrVersion {
		t.Errorf("Retire twice: %d", e)
	}
	for _, v := range []int{0, 2, 3, 7, 8, -1, 1 << 40} {
		if e := s.Release(v); e != api.ErrNone || !slices.Equal(s.Busy(), []int{1}) {
			t.Errorf("Release(%d): %d", v, e)
		}
	}
	if s.Release(1) != api.OK || s.Release(1) != api.ErrNone {
		t.Error("Release twice")
	}
	if e := (&stack.Stack{}).Retire(0); e != api.ErrVersion {
		t.Errorf("Retire of nothing: %d", e)
	}
}

// P15.1, P15.2: Free is the smallest version that has no table and is not busy; Busy is ascending.
func TestFree(t *testing.T) {
	s := full(8)
	for _, v := range []int{5, 0, 3} {
		s.Retire(v)
	}
	if !slices.Equal(s.Busy(), []int{0, 3, 5}) {
		t.Errorf("Busy %v", s.Busy())
	}
	if v, ok := s.Free(); v != 0 || ok {
		t.Errorf("Free %d %v", v, ok)
	}
	s.Release(5)
	if v, ok := s.Free(); v != 5 || !ok {
		t.Errorf("Free %d %v", v, ok)
	}
	s.Release(0)
	if v, ok := s.Free(); v != 0 || !ok {
		t.Errorf("Free %d %v", v, ok)
	}
}

// P15.3: evicted backends.
func TestEvict(t *testing.T) {
	s := &stack.Stack{}
	for _, n := range []int{0, -1, 65, 1 << 40, -1 << 63} {
		if e := s.Evict(n); e != api.ErrArg || s.Evicted(n) {
			t.Errorf("Evict(%d): %d", n, e)
		}
		if e := s.Admit(n); e != api.ErrNone {
			t.Errorf("Admit(%d): %d", n, e)
		}
	}
	for _, n := range []int{1, 64, 7} {
		if e := s.Admit(n); e != api.ErrNone || s.Evicted(n) {
			t.Errorf("Admit(%d): %d", n, e)
		}
		if e := s.Evict(n); e != api.OK || !s.Evicted(n) || s.Evicted(n-1) || s.Evicted(n+1) {
			t.Errorf("Evict(%d): %d", n, e)
		}
		if e := s.Evict(n); e != api.ErrTwice || !s.Evicted(n) {
			t.Errorf("Evict(%d) twice: %d", n, e)
		}
	}
	if e := s.Admit(7); e != api.OK || s.Evicted(7) || !s.Evicted(1) || !s.Evicted(64) {
		t.Errorf("Admit: %d", e)
	}
}

// P15.4: Find, and its errors in their order.
func TestFind(t *testing.T) {
	s := &stack.Stack{}
	s.Push(zero.Next(1, 2))
	s.Push(zero.Next(1, 2).Next(2, 3))
	s.Evict(3)
	for _, x := range []struct {
		version, slot, want int
		e                   api.Errno
	}{
		{0, 0, 1, api.OK}, {0, 1, 2, api.OK}, {0, 2, 0, api.ErrSlot}, {1, 0, 0, api.ErrSlot}, {1, 1, 2, api.OK}, {1, 2, 0, api.ErrDead},
		{1, 3, 0, api.ErrSlot}, {1, -1, 0, api.ErrSlot}, {2, 0, 0, api.ErrVersion}, {-1, 0, 0, api.ErrVersion}, {2, -1, 0, api.ErrVersion}, {8, 0, 0, api.ErrVersion},
	} {
		if got, e := s.Find(x.version, x.slot); got != x.want || e != x.e {
			t.Errorf("Find(%d, %d) = %d %d, want %d %d", x.version, x.slot, got, e, x.want, x.e)
		}
	}
	s.Evict(1)
	if n, e := s.Find(1, 0); n != 0 || e != api.ErrSlot {
		t.Errorf("Find of who is away and evicted: %d %d", n, e)
	}
	s.Retire(0)
	if n, e := s.Find(0, 0); n != 0 || e != api.ErrVersion {
		t.Errorf("Find in a retired version: %d %d", n, e)
	}
}

// P15.1: a copy is the same, and changes of one do not show in the other.
func TestCopy(t *testing.T) {
	s := full(4)
	s.Retire(1)
	s.Evict(9)
	c := s.Copy()
	before := s.Bytes()
	if !bytes.Equal(c.Bytes(), before) {
		t.Errorf("Copy %x, want %x", c.Bytes(), before)
	}
	c.Retire(0)
	c.Push(zero.Next(60))
	c.Evict(10)
	c.Admit(9)
	c.Release(1)
	if !bytes.Equal(s.Bytes(), before) {
		t.Error("a change of the copy shows")
	}
	before = c.Bytes()
	s.Retire(2)
	s.Push(zero)
	s.Push(zero)
	s.Evict(1)
	if !bytes.Equal(c.Bytes(), before) {
		t.Error("a change shows in the copy")
	}
	s.Versions()[0] = 5
	if s.Versions()[0] != 0 {
		t.Error("Versions shares the stack")
	}
}

// P15.5: the encoding.
func TestBytes(t *testing.T) {
	s := full(3)
	s.Retire(1)
	s.Evict(64)
	s.Evict(2)
	v, _ := s.Push(zero.Next(1, 2).Next(2))
	want := []byte{3, 0, 0, 1, 1, 2, 0, 1, 3, byte(v), 0, 2, 129, 2, 2, 2, 64, 1, 1}
	if !bytes.Equal(s.Bytes(), want) {
		t.Errorf("Bytes %x, want %x", s.Bytes(), want)
	}
	got, e := stack.Parse(want)
	if e != api.OK || !bytes.Equal(got.Bytes(), want) || !slices.Equal(got.Versions(), []int{0, 2, 3}) || !slices.Equal(got.Busy(), []int{1}) || !got.Evicted(64) || !got.Evicted(2) {
		t.Errorf("Parse %d: %x", e, got.Bytes())
	}
}

// P15.5: Parse accepts encodings of stacks only.
func TestParse(t *testing.T) {
	all := make([]byte, 0)
	for i := range 64 {
		all = append(all, byte(i+1))
	}
	for name, x := range map[string]struct {
		b  []byte
		ok bool
	}{
		"zero": {[]byte{0, 0, 0}, true}, "busy without tables": {[]byte{0, 0, 2, 0, 7}, true}, "all busy": {[]byte{0, 0, 8, 0, 1, 2, 3, 4, 5, 6, 7}, true},
		"evicted": {[]byte{0, 2, 1, 64, 0}, true}, "all evicted": {append(append([]byte{0, 64}, all...), 0), true}, "a table": {[]byte{1, 7, 0, 0, 0, 0}, true},
		"nothing": {nil, false}, "short": {[]byte{0, 0}, false}, "shorter": {[]byte{0}, false}, "more": {[]byte{0, 0, 0, 0}, false},
		"evicted 0": {[]byte{0, 1, 0, 0}, false}, "evicted 65": {[]byte{0, 1, 65, 0}, false}, "evicted twice": {[]byte{0, 2, 5, 5, 0}, false},
		"evicted falling": {[]byte{0, 2, 6, 5, 0}, false}, "evicted missing": {[]byte{0, 3, 5, 6}, false}, "evicted 255 of them": {[]byte{0, 255, 1, 2}, false},
		"busy 8": {[]byte{0, 0, 1, 8}, false}, "busy twice": {[]byte{0, 0, 2, 3, 3}, false}, "busy falling": {[]byte{0, 0, 2, 3, 2}, false}, "busy missing": {[]byte{0, 0, 1}, false},
		"busy 0 missing": {[]byte{0, 0, 2, 0}, false}, "busy with a table": {[]byte{1, 7, 0, 0, 0, 1, 7}, false}, "busy beside a table": {[]byte{1, 7, 0, 0, 0, 1, 6}, true},
		"version 8": {[]byte{1, 8, 0, 0, 0, 0}, false}, "version 255": {[]byte{1, 255, 0, 0, 0, 0}, false}, "version twice": {[]byte{2, 3, 0, 0, 3, 0, 0, 0, 0}, false}, "two versions falling": {[]byte{2, 3, 0, 0, 2, 0, 0, 0, 0}, true},
		"a bad table": {[]byte{1, 0, 0, 1, 65, 0, 0}, false}, "a table missing": {[]byte{2, 0, 0, 0}, false}, "table short": {[]byte{1, 0, 0}, false},
		"one table more": {[]byte{1, 0, 0, 0, 1, 0, 0, 0, 0}, false}, "0 tables missing": {[]byte{1}, false},
	} {
		s, e := stack.Parse(x.b)
		if x.ok && (e != api.OK || s == nil || !bytes.Equal(s.Bytes(), x.b)) || !x.ok && (e != api.ErrForm || s != nil) {
			t.Errorf("%s: %d %x", name, e, s.Bytes())
		}
	}
}

// A nil stack contains nothing, and its changes return ErrNil ahead of all other errors.
func TestNil(t *testing.T) {
	var s *stack.Stack
	if s.Copy() != nil || s.Len() != 0 || len(s.Versions()) != 0 || len(s.Busy()) != 0 || s.Evicted(1) || len(s.Bytes()) != 0 {
		t.Error("something is there")
	}
	if _, ok := s.Get(0); ok {
		t.Error("Get")
	}
	if v, x, ok := s.Newest(); ok || v != 0 || x.Len() != 0 {
		t.Error("Newest")
	}
	if v, ok := s.Free(); v != 0 || ok {
		t.Error("Free")
	}
	if n, e := s.Find(0, 0); n != 0 || e != api.ErrVersion {
		t.Errorf("Find %d %d", n, e)
	}
	v, e := s.Push(zero)
	if v != 0 || e != api.ErrNil || s.Retire(0) != api.ErrNil || s.Release(0) != api.ErrNil || s.Evict(0) != api.ErrNil || s.Admit(0) != api.ErrNil {
		t.Error("a change of nil")
	}
}

// P15.6: no busy version is assigned again, and Parse inverts Bytes.
func TestRandom(t *testing.T) {
	rnd := rand.New(rand.NewSource(1))
	for range 100 {
		s := &stack.Stack{}
		x := zero
		for range 60 {
			busy := s.Busy()
			switch rnd.Intn(5) {
			case 0, 1:
				x = x.Next(rnd.Intn(64)+1, rnd.Intn(64)+1)
				had := s.Versions()
				if v, e := s.Push(x); e == api.OK && (slices.Contains(busy, v) || slices.Contains(had, v)) {
					t.Fatalf("Push returned %d, with %v busy and tables %v", v, busy, had)
				}
			case 2:
				s.Retire(rnd.Intn(8))
			case 3:
				s.Release(rnd.Intn(8))
			case 4:
				s.Evict(rnd.Intn(66))
				s.Admit(rnd.Intn(66))
			}
			got, e := stack.Parse(s.Bytes())
			if e != api.OK || !bytes.Equal(got.Bytes(), s.Bytes()) || !slices.Equal(got.Versions(), s.Versions()) || !slices.Equal(got.Busy(), s.Busy()) {
				t.Fatalf("Parse of %x: %d", s.Bytes(), e)
			}
			for n := range 66 {
				if got.Evicted(n) != s.Evicted(n) {
					t.Fatalf("evicted %d", n)
				}
			}
			for _, v := range s.Versions() {
				a, _ := got.Get(v)
				b, _ := s.Get(v)
				if !table.Same(a, b) {
					t.Fatalf("table %d", v)
				}
			}
		}
	}
}
