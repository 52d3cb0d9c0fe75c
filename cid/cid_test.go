package cid_test

import (
	"bytes"
	"math/rand"
	"testing"

	"counterfoil/api"
	"counterfoil/cid"
	"counterfoil/cookie"
	"counterfoil/octet"
	"counterfoil/ring"
	"counterfoil/siphash"
)

var key = siphash.Of(1, 2)

// slowMake builds an ID as the document words it.
func slowMake(epoch uint64, p cookie.Place, once uint64) []byte {
	k := siphash.Derive(key, epoch)
	id := octet.Put(nil, once, 5)
	mask := uint16(siphash.Sum(k, append([]byte{3}, id...)) % (1 << 15))
	id = octet.Put(id, epoch%2<<15|uint64(p.Word()^mask), 2)
	return append(id, octet.Put(nil, siphash.Sum(k, append([]byte{4}, id...)), 8)[3:]...)
}

// P13.1: the ID as the document words it; its number may be from 0 to MostOnce.
func TestMake(t *testing.T) {
	if cid.Size != 12 || cid.MostOnce != 1099511627775 {
		t.Error("constants")
	}
	for _, epoch := range []uint64{0, 1, 2, 77, 1<<64 - 1} {
		for _, once := range []uint64{0, 1, 0x0102030405, cid.MostOnce} {
			p := cookie.Place{Version: 6, Slot: 0x456}
			if got, e := cid.Make(ring.New(key, epoch), p, once); e != api.OK || !bytes.Equal(got, slowMake(epoch, p, once)) {
				t.Errorf("Make at epoch %d of %x: %x %d", epoch, once, got, e)
			}
		}
	}
	for _, x := range []struct {
		p    cookie.Place
		once uint64
	}{{cookie.Place{Version: 8}, 0}, {cookie.Place{Slot: 4096}, 0}, {cookie.Place{Slot: -1}, 0}, {cookie.Place{}, cid.MostOnce + 1}, {cookie.Place{}, 1<<64 - 1}} {
		if got, e := cid.Make(ring.New(key, 3), x.p, x.once); e != api.ErrArg || len(got) != 0 {
			t.Errorf("Make of %+v: %x %d", x, got, e)
		}
	}
}

// P13.2: the errors of Read, in their order.
func TestReadErrors(t *testing.T) {
	for n := range 40 {
		if n == 12 {
			continue
		}
		if p, once, e := cid.Read(ring.New(key, 0), bytes.Repeat([]byte{0xff}, n)); e != api.ErrShort || p != (cookie.Place{}) || once != 0 {
			t.Errorf("Read of %d bytes: %+v %d %d", n, p, once, e)
		}
	}
	id, _ := cid.Make(ring.New(key, 1), cookie.Place{Version: 1, Slot: 2}, 3)
	longer := append(bytes.Clone(id), 0)
	for name, x := range map[string]struct {
		r    ring.Ring
		id   []byte
		want api.Errno
	}{
		"right": {ring.New(key, 1), id, api.OK}, "no key": {ring.New(key, 0), id, api.ErrTag}, "two epochs later": {ring.New(key, 3), id, api.ErrTag},
		"another key": {ring.New(siphash.Of(1, 3), 1), id, api.ErrTag}, "one byte more": {ring.New(key, 1), longer, api.ErrShort}, "one byte less": {ring.New(key, 1), id[:11], api.ErrShort},
	} {
		p, once, e := cid.Read(x.r, x.id)
		if e != x.want || e != api.OK && (p != (cookie.Place{}) || once != 0) {
			t.Errorf("%s: %+v %d %d, want %d", name, p, once, e, x.want)
		}
	}
	for i := range 96 {
		wrong := bytes.Clone(id)
		wrong[i/8] ^= 1 << (i % 8)
		if p, once, e := cid.Read(ring.New(key, 1), wrong); e != api.ErrTag || p != (cookie.Place{}) || once != 0 {
			t.Errorf("bit %d: %+v %d %d", i, p, once, e)
		}
	}
}

// P13.3: how many numbers a lease has.
func TestLeft(t *testing.T) {
	for _, x := range []struct {
		l    cid.Lease
		want uint64
	}{
		{cid.Lease{}, 0}, {cid.Lease{Next: 3, End: 5}, 2}, {cid.Lease{Next: 5, End: 5}, 0}, {cid.Lease{Next: 6, End: 5}, 0},
		{cid.Lease{End: 1<<64 - 1}, 1<<64 - 1}, {cid.Lease{Next: 1<<64 - 1}, 0}, {cid.Lease{Next: 4, End: 5}, 1},
	} {
		if got := x.l.Left(); got != x.want {
			t.Errorf("Left of %+v: %d", x.l, got)
		}
	}
}

// P13.3: Take makes IDs with one number after the other, and leaves the lease as it is with an error.
func TestTake(t *testing.T) {
	r, p := ring.New(key, 7), cookie.Place{Version: 2, Slot: 9}
	l := cid.Lease{Next: 3, End: 5}
	for once := uint64(3); once < 5; once++ {
		want, _ := cid.Make(r, p, once)
		id, rest, e := l.Take(r, p)
		if e != api.OK || !bytes.Equal(id, want) || rest != (cid.Lease{Next: once + 1, End: 5}) {
			t.Errorf("Take of %+v: %x %+v %d", l, id, rest, e)
		}
		l = rest
	}
	bad := cookie.Place{Version: 9}
	for name, x := range map[string]struct {
		l    cid.Lease
		p    cookie.Place
		want api.Errno
	}{
		"empty": {l, p, api.ErrNone}, "turned": {cid.Lease{Next: 6, End: 5}, p, api.ErrNone}, "empty, bad place": {l, bad, api.ErrNone},
		"bad place": {cid.Lease{Next: 1, End: 2}, bad, api.ErrArg}, "too great": {cid.Lease{Next: cid.MostOnce + 1, End: cid.MostOnce + 2}, p, api.ErrArg},
	} {
		if id, rest, e := x.l.Take(r, x.p); e != x.want || len(id) != 0 || rest != x.l {
			t.Errorf("%s: %x %+v %d, want %d", name, id, rest, e, x.want)
		}
	}
	if _, rest, e := (cid.Lease{Next: cid.MostOnce, End: 1 << 50}).Take(r, p); e != api.OK || rest.Next != 1<<40 {
		t.Errorf("the greatest number: %+v %d", rest, e)
	}
}

// P13.3: Cut divides a lease.
func TestCut(t *testing.T) {
	l := cid.Lease{Next: 3, End: 5}
	for n, want := range [][2]cid.Lease{
		{{Next: 3, End: 3}, {Next: 3, End: 5}}, {{Next: 3, End: 4}, {Next: 4, End: 5}}, {{Next: 3, End: 5}, {Next: 5, End: 5}},
	} {
		if a, b, e := l.Cut(uint64(n)); e != api.OK || a != want[0] || b != want[1] {
			t.Errorf("Cut %d: %+v %+v %d", n, a, b, e)
		}
	}
	for _, n := range []uint64{3, 1<<64 - 1} {
		if a, b, e := l.Cut(n); e != api.ErrNone || a != (cid.Lease{}) || b != l {
			t.Errorf("Cut %d: %+v %+v %d", n, a, b, e)
		}
	}
	empty := cid.Lease{Next: 7, End: 5}
	if a, b, e := empty.Cut(0); e != api.OK || a != (cid.Lease{Next: 7, End: 7}) || b != empty {
		t.Errorf("Cut 0 of none: %+v %+v %d", a, b, e)
	}
	if a, b, e := empty.Cut(1); e != api.ErrNone || a != (cid.Lease{}) || b != empty {
		t.Errorf("Cut 1 of none: %+v %+v %d", a, b, e)
	}
}

// P13.4: Read inverts Make, in the same epoch and in the next one, and IDs with different numbers differ.
func TestInverse(t *testing.T) {
	rnd := rand.New(rand.NewSource(1))
	seen := map[string]uint64{}
	for i := range 2000 {
		r := ring.New(key, uint64(rnd.Intn(4)))
		if i%10 == 0 {
			r = ring.New(key, 1<<64-2)
		}
		p := cookie.Place{Version: rnd.Intn(8), Slot: rnd.Intn(4096)}
		once := rnd.Uint64() % (cid.MostOnce + 1)
		id, e := cid.Make(r, p, once)
		if e != api.OK {
			t.Fatalf("Make: %d", e)
		}
		if n, ok := seen[string(id)]; ok && n != once {
			t.Fatalf("%x has two numbers", id)
		}
		seen[string(id)] = once
		before := bytes.Clone(id)
		for _, x := range []ring.Ring{r, r.Next()} {
			if got, n, e := cid.Read(x, id); got != p || n != once || e != api.OK || !bytes.Equal(id, before) {
				t.Fatalf("Read: %+v %d %d, want %+v %d", got, n, e, p, once)
			}
		}
	}
}
