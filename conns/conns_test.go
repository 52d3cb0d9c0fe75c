package conns_test

import (
	"math/rand"
	"slices"
	"testing"

	"counterfoil/addr"
	"counterfoil/api"
	"counterfoil/conns"
)

func flow(n int) api.Flow {
	return api.Flow{Src: addr.V4(10, 0, byte(n>>8), byte(n)), Dst: addr.V4(192, 0, 2, 1), SrcPort: 1000, DstPort: 80, Proto: 6}
}

// P31.1: a new table has space for 1 to 1024 connections.
func TestNew(t *testing.T) {
	for most, want := range map[int]int{1: 1, 0: 1, -1: 1, -1 << 63: 1, 2: 2, 1023: 1023, 1024: 1024, 1025: 1024, 1<<63 - 1: 1024} {
		c := conns.New(most)
		if c.Len() != 0 || c.Has(flow(0)) || c.Drop(flow(0)) {
			t.Errorf("%d: a new table has something", most)
		}
		for n := range want {
			if gone, ok := c.Put(flow(n), 1); ok || gone != (api.Flow{}) || c.Len() != n+1 {
				t.Fatalf("%d: connection %d: %+v %v, Len %d", most, n, gone, ok, c.Len())
			}
		}
		if gone, ok := c.Put(flow(want), 1); !ok || gone != flow(0) || c.Len() != want {
			t.Errorf("%d: the connection too many: %+v %v, Len %d", most, gone, ok, c.Len())
		}
	}
}

// P31.1, P31.2: Has, Get and Drop.
func TestGetDrop(t *testing.T) {
	c := conns.New(5)
	c.Put(flow(1), 0xabcd)
	c.Put(flow(2), 0)
	if w, ok := c.Get(flow(1)); w != 0xabcd || !ok {
		t.Errorf("Get %x %v", w, ok)
	}
	if w, ok := c.Get(flow(2)); w != 0 || !ok {
		t.Errorf("Get %x %v", w, ok)
	}
	if w, ok := c.Get(flow(3)); w != 0 || ok || c.Has(flow(3)) || c.Len() != 2 {
		t.Errorf("Get of none: %x %v", w, ok)
	}
	c.Put(flow(1), 0x1111)
	if w, ok := c.Get(flow(1)); w != 0x1111 || !ok || c.Len() != 2 {
		t.Errorf("Get of a new word: %x %v", w, ok)
	}
	if !c.Has(flow(1)) || !c.Drop(flow(1)) || c.Has(flow(1)) || c.Drop(flow(1)) || c.Len() != 1 || !c.Has(flow(2)) {
		t.Error("Drop")
	}
	if w, ok := c.Get(flow(1)); w != 0 || ok {
		t.Errorf("Get of a dropped one: %x %v", w, ok)
	}
}

// P31.2: each part of a flow tells connections apart.
func TestKeys(t *testing.T) {
	c := conns.New(20)
	l := []api.Flow{flow(1)}
	for i := range 6 {
		f := flow(1)
		switch i {
		case 0:
			f.Src.Low++
		case 1:
			f.Dst.Low++
		case 2:
			f.SrcPort++
		case 3:
			f.DstPort++
		case 4:
			f.Proto++
		case 5:
			f.Src.Six = true
		}
		l = append(l, f)
	}
	for i, f := range l {
		c.Put(f, uint16(i))
	}
	for i, f := range l {
		if w, ok := c.Get(f); w != uint16(i) || !ok {
			t.Errorf("connection %d: %d %v", i, w, ok)
		}
	}
}

// P31.2, example 1: Put and Get are uses, Has is none, and the least recently used connection goes first.
func TestEvict(t *testing.T) {
	one := conns.New(1)
	one.Put(flow(1), 1)
	if gone, ok := one.Put(flow(2), 2); gone != flow(1) || !ok || one.Has(flow(1)) || !one.Has(flow(2)) {
		t.Errorf("example 1: %+v %v", gone, ok)
	}
	if gone, ok := one.Put(flow(2), 3); gone != (api.Flow{}) || ok {
		t.Errorf("the same again: %+v %v", gone, ok)
	}
	c := conns.New(3)
	for n := range 3 {
		c.Put(flow(n), uint16(n))
	}
	c.Get(flow(0))
	c.Has(flow(1))
	c.Put(flow(2), 9)
	c.Get(flow(77))
	for i, want := range []int{1, 0, 2, 10, 11} {
		if gone, ok := c.Put(flow(10+i), 1); gone != flow(want) || !ok {
			t.Errorf("%d: %+v %v, want connection %d", i, gone, ok, want)
		}
	}
	c.Drop(flow(13))
	if gone, ok := c.Put(flow(20), 1); ok || gone != (api.Flow{}) || c.Len() != 3 {
		t.Errorf("after Drop: %+v %v", gone, ok)
	}
}

// A nil table and a zero one contain nothing, and no call changes them.
func TestNil(t *testing.T) {
	for _, c := range []*conns.Conns{nil, {}} {
		if gone, ok := c.Put(flow(1), 1); ok || gone != (api.Flow{}) {
			t.Errorf("Put %+v %v", gone, ok)
		}
		if w, ok := c.Get(flow(1)); ok || w != 0 || c.Has(flow(1)) || c.Drop(flow(1)) || c.Len() != 0 {
			t.Error("something is there")
		}
	}
}

// P31.2: a table agrees with a list in the order of use.
func TestRandom(t *testing.T) {
	rnd := rand.New(rand.NewSource(1))
	for range 100 {
		most := 1 + rnd.Intn(6)
		c := conns.New(most)
		var order []api.Flow
		words := map[api.Flow]uint16{}
		for range 200 {
			f := flow(rnd.Intn(9))
			at := slices.Index(order, f)
			w := uint16(rnd.Intn(1000))
			switch rnd.Intn(4) {
			case 0, 1:
				var want api.Flow
				if at >= 0 {
					order = slices.Delete(order, at, at+1)
				} else if len(order) == most {
					want, order = order[0], order[1:]
				}
				order, words[f] = append(slices.Clone(order), f), w
				if gone, ok := c.Put(f, w); gone != want || ok != (want != api.Flow{}) {
					t.Fatalf("Put: %+v %v, want %+v", gone, ok, want)
				}
			case 2:
				got, ok := c.Get(f)
				if ok != (at >= 0) || ok && got != words[f] {
					t.Fatalf("Get: %d %v", got, ok)
				}
				if at >= 0 {
					order = append(slices.Delete(order, at, at+1), f)
				}
			case 3:
				if c.Drop(f) != (at >= 0) {
					t.Fatal("Drop")
				}
				if at >= 0 {
					order = slices.Delete(order, at, at+1)
				}
			}
			if c.Len() != len(order) || c.Has(f) != slices.Contains(order, f) {
				t.Fatalf("Len %d, want %d", c.Len(), len(order))
			}
		}
	}
}
