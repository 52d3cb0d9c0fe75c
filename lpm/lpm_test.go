package lpm_test

import (
	"math/rand"
	"testing"

	"counterfoil/addr"
	"counterfoil/api"
	"counterfoil/lpm"
)

// prefix returns the prefix of an address in text, of which all other bits are cut off.
func prefix(t *testing.T, text string, n int) lpm.Prefix {
	t.Helper()
	a, e := addr.Parse(text)
	if e != api.OK {
		t.Fatalf("Parse(%q): %d", text, e)
	}
	return lpm.Prefix{Addr: lpm.Cut(a, n), Len: n}
}

// P40.1: the number of bits, and addresses cut after n of them.
func TestBitsCut(t *testing.T) {
	four, six := addr.V4(0xff, 0xff, 0xff, 0xff), addr.V6(1<<64-1, 1<<64-1)
	if lpm.Bits(four) != 32 || lpm.Bits(six) != 128 || lpm.Bits(api.Addr{}) != 32 {
		t.Error("Bits")
	}
	for n := range 33 {
		if got := lpm.Cut(four, n); got != (api.Addr{Low: (1<<n - 1) << (32 - n)}) {
			t.Errorf("Cut %d of IPv4: %+v", n, got)
		}
	}
	for n := range 129 {
		want := addr.V6(0, 0)
		for i := range n {
			if i < 64 {
				want.High |= 1 << (63 - i)
			} else {
				want.Low |= 1 << (127 - i)
			}
		}
		if got := lpm.Cut(six, n); got != want {
			t.Errorf("Cut %d of IPv6: %+v", n, got)
		}
	}
	for _, n := range []int{-1, -64, -1 << 63} {
		if lpm.Cut(four, n) != (api.Addr{}) || lpm.Cut(six, n) != addr.V6(0, 0) {
			t.Errorf("Cut %d", n)
		}
	}
	for _, n := range []int{129, 192, 1 << 40, 1<<63 - 1} {
		if lpm.Cut(four, n) != four || lpm.Cut(six, n) != six || lpm.Cut(four, 33) != four {
			t.Errorf("Cut %d", n)
		}
	}
	if got := lpm.Cut(addr.V4(10, 200, 3, 4), 9); got != addr.V4(10, 128, 0, 0) {
		t.Errorf("Cut %+v", got)
	}
}

// P40.1: valid prefixes have no bits that do not count.
func TestRight(t *testing.T) {
	for _, x := range []struct {
		p    lpm.Prefix
		want bool
	}{
		{lpm.Prefix{}, true}, {lpm.Prefix{Addr: addr.V4(10, 0, 0, 0), Len: 8}, true}, {lpm.Prefix{Addr: addr.V4(10, 0, 0, 0), Len: 7}, true}, {lpm.Prefix{Addr: addr.V4(10, 0, 0, 0), Len: 6}, false}, {lpm.Prefix{Addr: addr.V4(10, 0, 0, 1), Len: 31}, false},
		{lpm.Prefix{Addr: addr.V4(10, 0, 0, 1), Len: 32}, true}, {lpm.Prefix{Addr: addr.V4(10, 0, 0, 1), Len: 33}, false}, {lpm.Prefix{Len: -1}, false}, {lpm.Prefix{Addr: addr.V6(0, 0), Len: -1}, false}, {lpm.Prefix{Addr: addr.V6(0, 0)}, true},
		{lpm.Prefix{Addr: addr.V6(1, 1), Len: 128}, true}, {lpm.Prefix{Addr: addr.V6(1, 1), Len: 129}, false}, {lpm.Prefix{Addr: addr.V6(1, 1), Len: 127}, false}, {lpm.Prefix{Addr: addr.V6(1, 0), Len: 64}, true}, {lpm.Prefix{Addr: addr.V6(1, 0), Len: 63}, false},
		{lpm.Prefix{Addr: api.Addr{High: 1}, Len: 32}, false}, {lpm.Prefix{Addr: api.Addr{Low: 1 << 32}, Len: 32}, false}, {lpm.Prefix{Addr: api.Addr{Low: 1 << 32}}, false},
	} {
		if x.p.Right() != x.want {
			t.Errorf("Right of %+v", x.p)
		}
		var table lpm.Table
		e := table.Set(x.p, 5)
		if x.want && (e != api.OK || table.Len() != 1) || !x.want && (e != api.ErrArg || table.Len() != 0) {
			t.Errorf("Set of %+v: %d", x.p, e)
		}
	}
}

// find checks what Find returns for an address in text.
func find(t *testing.T, x *lpm.Table, text string, p lpm.Prefix, val int, ok bool) {
	t.Helper()
	a, _ := addr.Parse(text)
	if gotP, got, gotOk := x.Find(a); gotP != p || got != val || gotOk != ok {
		t.Errorf("Find(%s) = %+v %d %v, want %+v %d %v", text, gotP, got, gotOk, p, val, ok)
	}
}

// P40.3, example 1: the longest prefix of the address's family.
func TestFind(t *testing.T) {
	var x lpm.Table
	find(t, &x, "10.1.2.3", lpm.Prefix{}, 0, false)
	eight, sixteen := prefix(t, "10.0.0.0", 8), prefix(t, "10.1.0.0", 16)
	x.Set(eight, 1)
	x.Set(sixteen, 2)
	find(t, &x, "10.1.2.3", sixteen, 2, true)
	find(t, &x, "10.2.2.3", eight, 1, true)
	find(t, &x, "11.1.2.3", lpm.Prefix{}, 0, false)
	find(t, &x, "0:0:0:0:0:0:a01:203", lpm.Prefix{}, 0, false)
	host, all := prefix(t, "10.1.2.3", 32), prefix(t, "0.0.0.0", 0)
	x.Set(host, -7)
	x.Set(all, 0)
	find(t, &x, "10.1.2.3", host, -7, true)
	find(t, &x, "10.1.2.2", sixteen, 2, true)
	find(t, &x, "255.255.255.255", all, 0, true)
	find(t, &x, "0.0.0.0", all, 0, true)
	find(t, &x, "0:0:0:0:0:0:0:0", lpm.Prefix{}, 0, false)
	all6, long, host6 := prefix(t, "0:0:0:0:0:0:0:0", 0), prefix(t, "2001:db8:0:1:8000:0:0:0", 65), prefix(t, "2001:db8:0:1:8000:0:0:1", 128)
	for i, p := range []lpm.Prefix{all6, long, host6} {
		x.Set(p, 60+i)
	}
	find(t, &x, "2001:db8:0:1:8000:0:0:1", host6, 62, true)
	find(t, &x, "2001:db8:0:1:8000:0:0:2", long, 61, true)
	find(t, &x, "2001:db8:0:1:7fff:0:0:2", all6, 60, true)
	find(t, &x, "10.1.2.3", host, -7, true)
	for _, a := range []api.Addr{{High: 1}, {Low: 1 << 32}, {High: 1, Low: 1}} {
		if p, val, ok := x.Find(a); ok || val != 0 || p != (lpm.Prefix{}) {
			t.Errorf("Find of %+v", a)
		}
	}
	if x.Len() != 7 {
		t.Errorf("Len %d", x.Len())
	}
}

// P40.2: Set, Drop, Get and Len.
func TestSetDrop(t *testing.T) {
	var x lpm.Table
	eight, sixteen := prefix(t, "10.0.0.0", 8), prefix(t, "10.1.0.0", 16)
	get := func(p lpm.Prefix, val int, ok bool) {
		t.Helper()
		if got, gotOk := x.Get(p); got != val || gotOk != ok {
			t.Errorf("Get(%+v) = %d %v, want %d %v", p, got, gotOk, val, ok)
		}
	}
	drop := func(p lpm.Prefix, want api.Errno, n int) {
		t.Helper()
		if e := x.Drop(p); e != want || x.Len() != n {
			t.Errorf("Drop(%+v): %d, Len %d", p, e, x.Len())
		}
	}
	get(eight, 0, false)
	drop(eight, api.ErrNone, 0)
	x.Set(sixteen, 2)
	get(eight, 0, false)
	get(prefix(t, "10.1.0.0", 17), 0, false)
	get(prefix(t, "10.1.0.0", 15), 0, false)
	get(prefix(t, "0.0.0.0", 0), 0, false)
	get(lpm.Prefix{Addr: addr.V4(10, 1, 2, 3), Len: 16}, 0, false)
	get(lpm.Prefix{Addr: addr.V4(10, 1, 0, 0), Len: -1}, 0, false)
	get(lpm.Prefix{Addr: addr.V6(0, 0x0a010000), Len: 128}, 0, false)
	drop(eight, api.ErrNone, 1)
	drop(lpm.Prefix{Addr: addr.V4(10, 1, 2, 3), Len: 16}, api.ErrNone, 1)
	drop(prefix(t, "10.1.0.0", 20), api.ErrNone, 1)
	x.Set(eight, 1)
	x.Set(sixteen, 3)
	if x.Len() != 2 {
		t.Errorf("Len %d", x.Len())
	}
	get(eight, 1, true)
	get(sixteen, 3, true)
	drop(eight, api.OK, 1)
	drop(eight, api.ErrNone, 1)
	get(sixteen, 3, true)
	get(eight, 0, false)
	find(t, &x, "10.1.2.3", sixteen, 3, true)
	find(t, &x, "10.2.2.3", lpm.Prefix{}, 0, false)
	x.Set(eight, 4)
	drop(sixteen, api.OK, 1)
	find(t, &x, "10.1.2.3", eight, 4, true)
	drop(eight, api.OK, 0)
	find(t, &x, "10.1.2.3", lpm.Prefix{}, 0, false)
	x.Set(eight, 0)
	get(eight, 0, true)
}

// A nil Table is empty.
func TestNil(t *testing.T) {
	var x *lpm.Table
	find(t, x, "10.1.2.3", lpm.Prefix{}, 0, false)
	if val, ok := x.Get(lpm.Prefix{}); ok || val != 0 || x.Len() != 0 || x.Set(lpm.Prefix{Len: -1}, 1) != api.ErrNil || x.Set(lpm.Prefix{}, 1) != api.ErrNil || x.Drop(lpm.Prefix{}) != api.ErrNil || x.Drop(lpm.Prefix{Len: -1}) != api.ErrNil {
		t.Error("nil Table")
	}
}

// P40.3, P40.4: a table agrees with a list of all prefixes, and is empty after all were dropped.
func TestRandom(t *testing.T) {
	rnd := rand.New(rand.NewSource(1))
	some := func() api.Addr {
		if rnd.Intn(2) == 0 {
			return addr.V4(byte(rnd.Intn(3)), 0, 0, byte(rnd.Intn(4)))
		}
		return addr.V6(uint64(rnd.Intn(3))<<62|uint64(rnd.Intn(2)), uint64(rnd.Intn(2))<<63|uint64(rnd.Intn(4)))
	}
	for range 100 {
		var x lpm.Table
		vals := map[lpm.Prefix]int{}
		for i := range 100 {
			a := some()
			p := lpm.Prefix{Len: rnd.Intn(lpm.Bits(a) + 1)}
			p.Addr = lpm.Cut(a, p.Len)
			_, has := vals[p]
			if rnd.Intn(3) > 0 {
				vals[p] = i
				if e := x.Set(p, i); e != api.OK {
					t.Fatalf("Set: %d", e)
				}
			} else {
				delete(vals, p)
				if e := x.Drop(p); (e == api.OK) != has {
					t.Fatalf("Drop: %d", e)
				}
			}
			a = some()
			var want lpm.Prefix
			ok := false
			for q := range vals {
				if q.Addr.Six == a.Six && lpm.Cut(a, q.Len) == q.Addr && (!ok || q.Len > want.Len) {
					want, ok = q, true
				}
			}
			if got, val, gotOk := x.Find(a); got != want || gotOk != ok || val != vals[want] && ok {
				t.Fatalf("Find(%+v) = %+v %d %v, want %+v %v", a, got, val, gotOk, want, ok)
			}
			if x.Len() != len(vals) {
				t.Fatalf("Len %d, want %d", x.Len(), len(vals))
			}
		}
		for q, want := range vals {
			if got, ok := x.Get(q); got != want || !ok {
				t.Fatalf("Get(%+v) = %d %v", q, got, ok)
			}
		}
		for q := range vals {
			if e := x.Drop(q); e != api.OK {
				t.Fatalf("Drop: %d", e)
			}
		}
		for range 20 {
			if _, _, ok := x.Find(some()); ok || x.Len() != 0 {
				t.Fatal("something is left")
			}
		}
	}
}
