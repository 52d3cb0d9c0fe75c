package cookie_test

import (
	"math/rand"
	"testing"

	"counterfoil/addr"
	"counterfoil/api"
	"counterfoil/cookie"
	"counterfoil/ring"
	"counterfoil/siphash"
)

var key = siphash.Of(1, 2)

var flow4 = api.Flow{Src: addr.V4(1, 2, 3, 4), Dst: addr.V4(10, 0, 0, 1), SrcPort: 1234, DstPort: 443, Proto: 6}

var flow6 = api.Flow{Src: addr.V6(1, 2), Dst: addr.V6(3, 4), SrcPort: 1234, DstPort: 443, Proto: 6}

// P12.1: the bounds of a valid Place.
func TestRight(t *testing.T) {
	for _, x := range []struct {
		p    cookie.Place
		want bool
	}{
		{cookie.Place{}, true}, {cookie.Place{Version: 7, Slot: 4095}, true}, {cookie.Place{Version: 8}, false}, {cookie.Place{Version: -1}, false},
		{cookie.Place{Slot: 4096}, false}, {cookie.Place{Slot: -1}, false}, {cookie.Place{Version: 8, Slot: 4096}, false}, {cookie.Place{Version: 1, Slot: -4096}, false},
	} {
		if x.p.Right() != x.want {
			t.Errorf("Right of %+v", x.p)
		}
		for _, f := range []api.Flow{flow4, flow6} {
			c, e := cookie.Hide(ring.New(key, 1), f, x.p)
			if x.want && e != api.OK || !x.want && (e != api.ErrArg || c != 0) {
				t.Errorf("Hide of %+v: %x %d", x.p, c, e)
			}
		}
	}
}

// P12.1: Word and Of, which ignores the most significant bit.
func TestWordOf(t *testing.T) {
	for w := range 1 << 15 {
		p := cookie.Place{Version: w / 4096, Slot: w % 4096}
		if got := p.Word(); got != uint16(w) {
			t.Fatalf("Word of %+v: %x", p, got)
		}
		if cookie.Of(uint16(w)) != p || cookie.Of(uint16(w)|0x8000) != p {
			t.Fatalf("Of %x: %+v", w, cookie.Of(uint16(w)))
		}
	}
}

// P12.2: the cookie as the document words it, with the key of the ring's own epoch.
func TestHide(t *testing.T) {
	for _, f := range []api.Flow{flow4, flow6} {
		for _, now := range []uint64{0, 1, 2, 5, 1<<64 - 1} {
			p := cookie.Place{Version: 5, Slot: 0x123}
			mask := siphash.Sum(siphash.Derive(key, now), append(addr.Key(f), 1)) % (1 << 15)
			want := uint16(now%2)<<15 | (p.Word() ^ uint16(mask))
			if got, e := cookie.Hide(ring.New(key, now), f, p); got != want || e != api.OK {
				t.Errorf("Hide at epoch %d: %x %d, want %x", now, got, e, want)
			}
		}
	}
}

// P12.2: Seek takes the key for the most significant bit; ErrTag if there is none.
func TestSeek(t *testing.T) {
	for _, now := range []uint64{0, 1, 2, 3, 1000} {
		r := ring.New(key, now)
		for _, c := range []uint16{0, 1, 0x7fff, 0x8000, 0xffff, 0x1234, 0x9234} {
			epoch := now
			if uint64(c>>15) != now%2 {
				epoch = now - 1
			}
			got, e := cookie.Seek(r, flow4, c)
			if now == 0 && c >= 0x8000 {
				if e != api.ErrTag || got != (cookie.Place{}) {
					t.Errorf("Seek without a key: %+v %d", got, e)
				}
				continue
			}
			mask := uint16(siphash.Sum(siphash.Derive(key, epoch), append(addr.Key(flow4), 1)) % (1 << 15))
			if want := cookie.Of(c&0x7fff ^ mask); e != api.OK || got != want {
				t.Errorf("Seek of %x at epoch %d: %+v %d, want %+v", c, now, got, e, want)
			}
		}
	}
}

// P12.4: Seek finds what Hide encoded, in the same epoch and in the next one, for that flow.
func TestSeekFindsHidden(t *testing.T) {
	rnd := rand.New(rand.NewSource(1))
	for i := range 2000 {
		r := ring.New(siphash.Of(rnd.Uint64(), rnd.Uint64()), uint64(rnd.Intn(5)))
		if i%10 == 0 {
			r = ring.New(key, 1<<64-2)
		}
		f := flow4
		if rnd.Intn(2) == 0 {
			f = flow6
		}
		f.SrcPort = uint16(rnd.Uint32())
		p := cookie.Place{Version: rnd.Intn(8), Slot: rnd.Intn(4096)}
		c, e := cookie.Hide(r, f, p)
		if e != api.OK {
			t.Fatalf("Hide: %d", e)
		}
		if got, e := cookie.Seek(r, f, c); got != p || e != api.OK {
			t.Fatalf("Seek in the same epoch: %+v %d, want %+v", got, e, p)
		}
		if got, e := cookie.Seek(r.Next(), f, c); got != p || e != api.OK {
			t.Fatalf("Seek in the next epoch: %+v %d, want %+v", got, e, p)
		}
	}
}

// P12.2: each part of the flow, and the key, changes the cookie.
func TestHideDepends(t *testing.T) {
	flows := []api.Flow{flow4, flow6}
	for i := range 8 {
		f := flow4
		switch i {
		case 0:
			f.Src = addr.V4(1, 2, 3, 5)
		case 1:
			f.Dst = addr.V4(10, 0, 0, 2)
		case 2:
			f.SrcPort++
		case 3:
			f.DstPort++
		case 4:
			f.Proto++
		case 5:
			f.Src, f.Dst = f.Dst, f.Src
		case 6:
			f.SrcPort, f.DstPort = f.DstPort, f.SrcPort
		case 7:
			f.Src = addr.V6(0, f.Src.Low)
		}
		flows = append(flows, f)
	}
	seen := map[uint16]int{}
	for _, f := range flows {
		c, _ := cookie.Hide(ring.New(key, 4), f, cookie.Place{})
		seen[c]++
	}
	if len(seen) != len(flows) {
		t.Errorf("%d cookies of %d flows", len(seen), len(flows))
	}
}

// P12.3: Blend and Part.
func TestBlendPart(t *testing.T) {
	if got := cookie.Blend(0x12345678, 0x9abc); got != 0x56789abc {
		t.Errorf("Blend %x", got)
	}
	if got := cookie.Blend(0xffff0000, 0xffff); got != 0x0000ffff {
		t.Errorf("Blend %x", got)
	}
	if tick, c := cookie.Part(0x56789abc); tick != 0x5678 || c != 0x9abc {
		t.Errorf("Part %x %x", tick, c)
	}
}

// P12.3: Restore returns the only tick that is not after now, less than 65536 before it, and has these low bits.
func TestRestore(t *testing.T) {
	for _, x := range []struct {
		now  uint32
		tick uint16
		want uint32
	}{
		{0x20005, 0x0003, 0x20003}, {0x20005, 0x0009, 0x10009}, {0x20005, 0x0005, 0x20005}, {0x20005, 0x0006, 0x10006}, {0x20005, 0x0004, 0x20004},
		{5, 9, 0xffff0009}, {0, 0, 0}, {0, 0xffff, 0xffffffff}, {0xffffffff, 0xffff, 0xffffffff}, {0xffffffff, 0, 0xffff0000}, {0x2ffff, 0, 0x20000},
	} {
		if got := cookie.Restore(x.now, x.tick); got != x.want {
			t.Errorf("Restore(%x, %x) = %x, want %x", x.now, x.tick, got, x.want)
		}
	}
	rnd := rand.New(rand.NewSource(2))
	for range 2000 {
		now, tick := rnd.Uint32(), uint16(rnd.Uint32())
		got := cookie.Restore(now, tick)
		if uint16(got) != tick || now-got >= 65536 {
			t.Fatalf("Restore(%x, %x) = %x", now, tick, got)
		}
	}
}

// P12.3: Ahead, around 2^32.
func TestAhead(t *testing.T) {
	for _, x := range []struct {
		a, b uint32
		want bool
	}{
		{0, 0, true}, {0, 1, true}, {1, 0, false}, {0, 1<<31 - 1, true}, {0, 1 << 31, false}, {0, 1<<32 - 1, false}, {1<<32 - 1, 0, true},
		{1 << 31, 0, false}, {1<<31 + 1, 0, true}, {5, 5 + 1<<31, false}, {5, 4 + 1<<31, true}, {0xfffffff0, 0x10, true}, {0x10, 0xfffffff0, false},
	} {
		if got := cookie.Ahead(x.a, x.b); got != x.want {
			t.Errorf("Ahead(%x, %x) = %v", x.a, x.b, got)
		}
	}
}

// P12.5: Restore recovers the tick of a blended timestamp, and Ahead orders near ticks like their Blends.
func TestTicks(t *testing.T) {
	rnd := rand.New(rand.NewSource(3))
	for i := range 5000 {
		tick, c := rnd.Uint32(), uint16(rnd.Uint32())
		later := uint32(rnd.Intn(65536))
		if i%10 == 0 {
			later = 65535 * uint32(i/10%2)
		}
		part, got := cookie.Part(cookie.Blend(tick, c))
		if got != c || cookie.Restore(tick+later, part) != tick {
			t.Fatalf("tick %x, %d later: %x", tick, later, cookie.Restore(tick+later, part))
		}
		other := tick + uint32(rnd.Intn(65535)) - 32767
		if cookie.Ahead(tick, other) != cookie.Ahead(cookie.Blend(tick, c), cookie.Blend(other, c)) {
			t.Fatalf("Ahead of %x and %x", tick, other)
		}
	}
}
