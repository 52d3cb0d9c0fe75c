package udp_test

import (
	"bytes"
	"math/rand"
	"testing"

	"counterfoil/addr"
	"counterfoil/api"
	"counterfoil/ip6"
	"counterfoil/sum"
	"counterfoil/udp"
)

var known = udp.Datagram{SrcPort: 0x0102, DstPort: 0x0304, Sum: 0x0506, Load: []byte{50, 51, 52}}

var knownBytes = []byte{1, 2, 3, 4, 0, 11, 5, 6, 50, 51, 52}

var (
	src4, dst4 = addr.V4(10, 0, 0, 1), addr.V4(192, 168, 3, 4)
	src6, dst6 = addr.V6(0x20010db800000000, 1), addr.V6(0x20010db800000000, 2)
)

func with(b []byte, at int, c byte) []byte {
	out := bytes.Clone(b)
	out[at] = c
	return out
}

func same(a, b udp.Datagram) bool {
	return a.SrcPort == b.SrcPort && a.DstPort == b.DstPort && a.Sum == b.Sum && bytes.Equal(a.Load, b.Load)
}

// P7.1: Parse ignores the bytes beyond the stated length, and shares none.
func TestParse(t *testing.T) {
	b := append(bytes.Clone(knownBytes), 99, 98)
	before := bytes.Clone(b)
	d, e := udp.Parse(b)
	if e != api.OK || !same(d, known) {
		t.Errorf("Parse: %+v %d", d, e)
	}
	d.Load[0] = 0
	_ = append(d.Load, 1)
	if !bytes.Equal(b, before) {
		t.Error("Parse shares its argument")
	}
	if d, e := udp.Parse([]byte{0, 0, 0, 0, 0, 8, 0, 0}); e != api.OK || !same(d, udp.Datagram{}) {
		t.Errorf("Parse of an empty datagram: %+v %d", d, e)
	}
	if udp.Size != 8 || udp.MostID != 20 {
		t.Error("constants")
	}
}

// P7.1: the errors of Parse, in their order.
func TestParseErrors(t *testing.T) {
	for name, x := range map[string]struct {
		b    []byte
		want api.Errno
	}{
		"nothing": {nil, api.ErrShort}, "7 bytes": {knownBytes[:7], api.ErrShort}, "7 malformed bytes": {with(knownBytes, 5, 7)[:7], api.ErrShort},
		"length 7": {with(knownBytes, 5, 7), api.ErrForm}, "length 0": {with(knownBytes, 5, 0), api.ErrForm},
		"length 12 of 11": {with(knownBytes, 5, 12), api.ErrShort}, "length 267": {with(knownBytes, 4, 1), api.ErrShort}, "10 bytes of 11": {knownBytes[:10], api.ErrShort},
	} {
		if d, e := udp.Parse(x.b); e != x.want || !same(d, udp.Datagram{}) {
			t.Errorf("%s: %+v %d, want %d", name, d, e, x.want)
		}
	}
}

// P7.1: a valid datagram has at most 65527 bytes of load; Bytes of any other one is nothing.
func TestRightBytes(t *testing.T) {
	if got := known.Bytes(); !bytes.Equal(got, knownBytes) || !known.Right() {
		t.Errorf("Bytes %x", got)
	}
	known.Bytes()[8] = 0
	if known.Load[0] != 50 {
		t.Error("Bytes shares the load")
	}
	d := udp.Datagram{Load: make([]byte, 65527)}
	if b := d.Bytes(); !d.Right() || len(b) != 65535 || b[4] != 255 || b[5] != 255 {
		t.Error("the greatest datagram")
	}
	d.Load = make([]byte, 65528)
	if d.Right() || len(d.Bytes()) != 0 || d.Fine(src4, dst4) {
		t.Error("a datagram that is too long")
	}
}

// P7.2: Summed sets the correct checksum, and Fine finds it right.
func TestSummed(t *testing.T) {
	for _, p := range [][2]api.Addr{{src4, dst4}, {src6, dst6}} {
		got := known.Summed(p[0], p[1])
		want := known
		want.Sum = 0
		want.Sum = sum.Of(append(ip6.Pseudo(p[0], p[1], 17, 11), want.Bytes()...))
		if !same(got, want) || want.Sum == 0 {
			t.Errorf("Summed %+v, want %+v", got, want)
		}
		if !got.Fine(p[0], p[1]) || got.Fine(p[0], p[0]) || known.Fine(p[0], p[1]) {
			t.Error("Fine")
		}
		got.Load[0] = 1
		if got.Fine(p[0], p[1]) {
			t.Error("a changed datagram is Fine")
		}
		if known.Load[0] != 50 {
			t.Error("Summed shares its argument")
		}
	}
	// Computed by hand: pseudo-header 01020304 00110008, datagram of eight bytes of which only the length counts.
	if d := (udp.Datagram{}).Summed(addr.V4(1, 2, 3, 4), addr.V4(0, 0, 0, 0)); d.Sum != ^uint16(0x0102+0x0304+17+8+8) {
		t.Errorf("Sum %x", d.Sum)
	}
}

// P7.2: a sum of 0 is written as 65535; a Sum of 0 says that there is none, which only IPv4 allows.
func TestNoSum(t *testing.T) {
	for _, p := range [][2]api.Addr{{src4, dst4}, {src6, dst6}} {
		d := udp.Datagram{SrcPort: 1, DstPort: 2, Load: []byte{0, 0}}
		s := d.Summed(p[0], p[1]).Sum
		d.Load = []byte{byte(s >> 8), byte(s)}
		if got := d.Summed(p[0], p[1]); got.Sum != 0xffff || !got.Fine(p[0], p[1]) {
			t.Errorf("Sum %x", got.Sum)
		}
		d.Sum, d.Load = 0, []byte{1, 2, 3}
		if d.Fine(p[0], p[1]) == p[0].Six {
			t.Errorf("no sum between %+v", p)
		}
	}
}

// P7.3: a long header, read field by field.
func TestShowLong(t *testing.T) {
	id := func(n int) []byte { return bytes.Repeat([]byte{0xab}, n) }
	for _, size := range []int{0, 12, 20} {
		q, e := udp.Show([]byte{0xc0, 0, 0, 0, 1, 2, 0xab, 0xcd, 0}, size)
		if e != api.OK || !q.Long || q.Version != 1 || !bytes.Equal(q.Dst, []byte{0xab, 0xcd}) || len(q.Src) != 0 || !q.Initial {
			t.Errorf("example 1: %+v %d", q, e)
		}
	}
	b := bytes.Join([][]byte{{0x80, 1, 2, 3, 4, 20}, id(20), {3, 7, 8, 9, 55, 56}}, nil)
	before := bytes.Clone(b)
	q, e := udp.Show(b, 5)
	if e != api.OK || !q.Long || q.Version != 0x01020304 || !bytes.Equal(q.Dst, id(20)) || !bytes.Equal(q.Src, []byte{7, 8, 9}) || !q.Initial {
		t.Errorf("Show: %+v %d", q, e)
	}
	q.Dst[0], q.Src[0] = 0, 0
	_, _ = append(q.Dst, 1), append(q.Src, 1)
	if !bytes.Equal(b, before) {
		t.Error("Show shares its argument")
	}
}

// P7.3: Initial needs a version, and two bits that are 0.
func TestShowInitial(t *testing.T) {
	for first := 0x80; first < 0x100; first++ {
		for version := range 2 {
			q, e := udp.Show([]byte{byte(first), 0, 0, 0, byte(version), 0, 0}, 0)
			if e != api.OK || !q.Long || q.Initial != (version == 1 && first&0x30 == 0) {
				t.Errorf("first %x version %d: %+v %d", first, version, q, e)
			}
		}
	}
	if q, _ := udp.Show([]byte{0xc0, 1, 0, 0, 0, 0, 0}, 0); !q.Initial || q.Version != 1<<24 {
		t.Errorf("version %x", q.Version)
	}
}

// P7.3: the errors of long headers: the first field that is wrong counts.
func TestShowLongErrors(t *testing.T) {
	whole := []byte{0xc0, 0, 0, 0, 1, 2, 0xab, 0xcd, 3, 7, 8, 9}
	for n := range len(whole) {
		if q, e := udp.Show(whole[:n], 0); e != api.ErrShort || q.Long || q.Version != 0 || q.Initial || len(q.Dst) != 0 || len(q.Src) != 0 {
			t.Errorf("%d bytes: %+v %d", n, q, e)
		}
	}
	if _, e := udp.Show(whole, 0); e != api.OK {
		t.Errorf("all bytes: %d", e)
	}
	for name, x := range map[string]struct {
		b    []byte
		want api.Errno
	}{
		"Dst of 21, short": {[]byte{0xc0, 0, 0, 0, 1, 21}, api.ErrForm}, "Dst of 255": {[]byte{0xc0, 0, 0, 0, 1, 255, 1}, api.ErrForm},
		"Dst of 21": {append([]byte{0xc0, 0, 0, 0, 1, 21}, make([]byte, 40)...), api.ErrForm}, "Dst of 20, short": {[]byte{0xc0, 0, 0, 0, 1, 20}, api.ErrShort},
		"Src of 21": {append([]byte{0xc0, 0, 0, 0, 1, 0, 21}, make([]byte, 40)...), api.ErrForm}, "Src of 21, short": {[]byte{0xc0, 0, 0, 0, 1, 1, 9, 21}, api.ErrForm},
		"Src of 20, short": {append([]byte{0xc0, 0, 0, 0, 1, 0, 20}, make([]byte, 19)...), api.ErrShort}, "Dst short, its bytes a bad Src": {[]byte{0xc0, 0, 0, 0, 1, 4, 1, 21, 21}, api.ErrShort},
	} {
		if q, e := udp.Show(x.b, 0); e != x.want || q.Long || q.Version != 0 || q.Initial || len(q.Dst) != 0 || len(q.Src) != 0 {
			t.Errorf("%s: %+v %d, want %d", name, q, e, x.want)
		}
	}
}

// P7.3: a short header holds an ID of size bytes behind its first byte, whose second bit is set.
func TestShowShort(t *testing.T) {
	b := make([]byte, 31)
	for i := range b {
		b[i] = byte(100 + i)
	}
	for first := range 0x80 {
		for size := range 21 {
			for _, n := range []int{1 + size, 31, size} {
				if n == 0 {
					continue
				}
				b[0] = byte(first)
				q, e := udp.Show(b[:n], size)
				want := api.OK
				if first&0x40 == 0 {
					want = api.ErrForm
				} else if n == size {
					want = api.ErrShort
				}
				if e != want || q.Long || q.Version != 0 || q.Initial || len(q.Src) != 0 {
					t.Fatalf("first %x size %d of %d: %+v %d", first, size, n, q, e)
				}
				if want == api.OK && !bytes.Equal(q.Dst, b[1:1+size]) || want != api.OK && len(q.Dst) != 0 {
					t.Fatalf("first %x size %d of %d: %+v", first, size, n, q)
				}
			}
		}
	}
	if _, e := udp.Show(nil, 0); e != api.ErrShort {
		t.Errorf("nothing: %d", e)
	}
}

// P7.4: Parse inverts Bytes, and what Summed returns is Fine.
func TestInverse(t *testing.T) {
	rnd := rand.New(rand.NewSource(1))
	for range 2000 {
		d := udp.Datagram{SrcPort: uint16(rnd.Uint32()), DstPort: uint16(rnd.Uint32()), Sum: uint16(rnd.Uint32()), Load: make([]byte, rnd.Intn(30))}
		rnd.Read(d.Load)
		if got, e := udp.Parse(d.Bytes()); e != api.OK || !same(got, d) {
			t.Fatalf("Parse: %+v %d, want %+v", got, e, d)
		}
		if !d.Summed(src4, dst4).Fine(src4, dst4) || !d.Summed(src6, dst6).Fine(src6, dst6) {
			t.Fatalf("a summed datagram is not Fine: %+v", d)
		}
	}
}
