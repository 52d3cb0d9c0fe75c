package tcp_test

import (
	"bytes"
	"math/rand"
	"reflect"
	"testing"

	"counterfoil/addr"
	"counterfoil/api"
	"counterfoil/ip6"
	"counterfoil/sum"
	"counterfoil/tcp"
)

var known = tcp.Segment{
	SrcPort: 0x0102, DstPort: 0x0304, Seq: 0x05060708, Ack: 0x090a0b0c, Flags: 0xed, Window: 0x0e0f, Sum: 0x1011, Urgent: 0x1213,
	Options: []byte{1, 1, 1, 0}, Load: []byte{50, 51, 52},
}

var knownBytes = []byte{
	1, 2, 3, 4, 5, 6, 7, 8, 9, 10, 11, 12, 0x60, 0xed, 14, 15, 16, 17, 18, 19, 1, 1, 1, 0, 50, 51, 52,
}

var (
	src4, dst4 = addr.V4(10, 0, 0, 1), addr.V4(192, 168, 3, 4)
	src6, dst6 = addr.V6(0x20010db800000000, 1), addr.V6(0x20010db800000000, 2)
)

func with(b []byte, at int, c byte) []byte {
	out := bytes.Clone(b)
	out[at] = c
	return out
}

func same(a, b tcp.Segment) bool {
	if !bytes.Equal(a.Options, b.Options) || !bytes.Equal(a.Load, b.Load) {
		return false
	}
	a.Options, b.Options, a.Load, b.Load = nil, nil, nil, nil
	return reflect.DeepEqual(a, b)
}

// The flags have the values of RFC 9293.
func TestConstants(t *testing.T) {
	got := []int{tcp.FIN, tcp.SYN, tcp.RST, tcp.PSH, tcp.ACK, tcp.URG, tcp.Least, tcp.Kind, tcp.Long}
	if want := []int{1, 2, 4, 8, 16, 32, 20, 8, 10}; !reflect.DeepEqual(got, want) {
		t.Errorf("%v, want %v", got, want)
	}
}

// P6.1: Parse takes all bytes, and shares none of them.
func TestParse(t *testing.T) {
	b := append(bytes.Clone(knownBytes), 99)[:len(knownBytes)]
	before := bytes.Clone(b[:len(b)+1])
	s, e := tcp.Parse(b)
	if e != api.OK || !same(s, known) {
		t.Errorf("Parse: %+v %d", s, e)
	}
	s.Load[0], s.Options[0] = 0, 0
	_, _ = append(s.Load, 1), append(s.Options, 1)
	if !bytes.Equal(b[:len(b)+1], before) {
		t.Error("Parse shares its argument")
	}
	if s, e := tcp.Parse(with(knownBytes[:20], 12, 0x50)); e != api.OK || len(s.Options) != 0 || len(s.Load) != 0 {
		t.Errorf("Parse of a bare header: %+v %d", s, e)
	}
	long := with(make([]byte, 70000), 12, 0xf0)
	if s, e := tcp.Parse(long); e != api.OK || len(s.Options) != 40 || len(s.Load) != 69940 || s.Right() {
		t.Errorf("Parse of 70000 bytes: %d", e)
	}
}

// P6.1: the errors of Parse, in their order.
func TestParseErrors(t *testing.T) {
	for name, x := range map[string]struct {
		b    []byte
		want api.Errno
	}{
		"nothing": {nil, api.ErrShort}, "19 bytes": {knownBytes[:19], api.ErrShort}, "19 malformed bytes": {with(knownBytes, 12, 0)[:19], api.ErrShort},
		"header of 16 bytes": {with(knownBytes, 12, 0x40), api.ErrForm}, "header of 0 bytes": {with(knownBytes, 12, 0), api.ErrForm},
		"lower bit 1": {with(knownBytes, 12, 0x61), api.ErrForm}, "lower bit 8": {with(knownBytes, 12, 0x68), api.ErrForm},
		"lower bits, short": {with(knownBytes, 12, 0xf1), api.ErrForm}, "23 bytes of 24": {knownBytes[:23], api.ErrShort},
		"27 bytes of 60": {with(knownBytes, 12, 0xf0), api.ErrShort}, "27 bytes of 28": {with(knownBytes, 12, 0x70), api.ErrShort},
	} {
		if s, e := tcp.Parse(x.b); e != x.want || !same(s, tcp.Segment{}) {
			t.Errorf("%s: %+v %d, want %d", name, s, e, x.want)
		}
	}
}

// P6.1: the bounds of a valid segment, and that Bytes of any other one is nothing.
func TestRightBytes(t *testing.T) {
	if got := known.Bytes(); !bytes.Equal(got, knownBytes) {
		t.Errorf("Bytes %x", got)
	}
	known.Bytes()[24] = 0
	if known.Load[0] != 50 {
		t.Error("Bytes shares the segment")
	}
	for _, x := range []struct {
		options, load int
		want          bool
	}{
		{0, 0, true}, {40, 0, true}, {44, 0, false}, {41, 0, false}, {3, 0, false}, {1, 0, false}, {2, 0, false}, {4, 3, true},
		{0, 65515, true}, {0, 65516, false}, {40, 65475, true}, {40, 65476, false},
	} {
		s := tcp.Segment{Options: make([]byte, x.options), Load: make([]byte, x.load)}
		if s.Right() != x.want {
			t.Errorf("Right of %+v", x)
		}
		if n := len(s.Bytes()); x.want && n != 20+x.options+x.load || !x.want && n != 0 {
			t.Errorf("Bytes of %+v: %d", x, n)
		}
	}
}

// slowSum computes a segment's checksum as the document words it.
func slowSum(s tcp.Segment, src, dst api.Addr) uint16 {
	s.Sum = 0
	return sum.Of(append(ip6.Pseudo(src, dst, 6, len(s.Bytes())), s.Bytes()...))
}

// P6.2: Summed sets the correct checksum, which Fine finds right.
func TestSummed(t *testing.T) {
	for _, p := range [][2]api.Addr{{src4, dst4}, {src6, dst6}} {
		got := known.Summed(p[0], p[1])
		want := known
		want.Sum = slowSum(known, p[0], p[1])
		if !same(got, want) {
			t.Errorf("Summed %+v, want %+v", got, want)
		}
		if !tcp.Fine(got.Bytes(), p[0], p[1]) {
			t.Error("a summed segment is not Fine")
		}
		if tcp.Fine(with(got.Bytes(), 26, 1), p[0], p[1]) || tcp.Fine(got.Bytes(), p[0], p[0]) || tcp.Fine(got.Bytes()[:26], p[0], p[1]) {
			t.Error("a wrong segment is Fine")
		}
		got.Load[0], got.Options[0] = 0, 0
		if known.Load[0] != 50 || known.Options[0] != 1 {
			t.Error("Summed shares its argument")
		}
	}
	// Computed by hand: pseudo-header 01020304 00060014, segment of twenty bytes of which only the header length counts.
	if s := (tcp.Segment{}).Summed(addr.V4(1, 2, 3, 4), addr.V4(0, 0, 0, 0)); s.Sum != ^uint16(0x0102+0x0304+6+20+0x5000) {
		t.Errorf("Sum %x", s.Sum)
	}
}

// P6.2: Fine is for at most 65535 bytes.
func TestFineLength(t *testing.T) {
	s := tcp.Segment{Load: make([]byte, 65515)}.Summed(src4, dst4)
	if !tcp.Fine(s.Bytes(), src4, dst4) {
		t.Error("the greatest segment is not Fine")
	}
	for _, n := range []int{65536, 65538} {
		b := make([]byte, n)
		rest := sum.Of(ip6.Pseudo(src6, dst6, 6, n))
		b[0], b[1] = byte(rest>>8), byte(rest)
		if !sum.Right(ip6.Pseudo(src6, dst6, 6, n), b) {
			t.Fatal("the test's own sum")
		}
		if tcp.Fine(b, src6, dst6) {
			t.Errorf("%d bytes are Fine", n)
		}
	}
}

var ten = []byte{0xa0, 0xa1, 0xa2, 0xa3, 0xb0, 0xb1, 0xb2, 0xb3}

func options(parts ...[]byte) []byte {
	return bytes.Join(parts, nil)
}

// P6.3: where the timestamps stand.
func TestStamps(t *testing.T) {
	stamp := options([]byte{8, 10}, ten)
	for name, x := range map[string]struct {
		b    []byte
		want int
		ok   bool
	}{
		"example 1":           {options([]byte{1, 1}, stamp), 4, true},
		"at once":             {stamp, 2, true},
		"odd":                 {options([]byte{1}, stamp), 3, true},
		"behind another":      {options([]byte{2, 4, 5, 0xb4}, stamp), 6, true},
		"behind an empty one": {options([]byte{4, 2}, stamp), 4, true},
		"behind two":          {options([]byte{3, 3, 7, 1, 4, 2}, stamp), 8, true},
		"followed by others":  {options(stamp, []byte{0, 0}), 2, true},
		"two of them":         {options(stamp, stamp), 2, true},
		"none":                {nil, 0, false},
		"behind an end":       {options([]byte{0}, stamp), 0, false},
		"behind noughts":      {options([]byte{1, 1, 0}, stamp), 0, false},
		"a kind alone":        {[]byte{8}, 0, false},
		"another kind alone":  {[]byte{1, 5}, 0, false},
		"length 9":            {options([]byte{8, 9}, ten), 0, false},
		"length 11":           {options([]byte{8, 11}, ten, []byte{0}), 0, false},
		"length 2":            {options([]byte{8, 2}, stamp), 0, false},
		"length 1":            {options([]byte{8, 1}, stamp), 0, false},
		"length 0":            {options([]byte{8, 0}, stamp), 0, false},
		"one byte less":       {stamp[:9], 0, false},
		"other of length 0":   {options([]byte{2, 0}, stamp), 0, false},
		"other of length 1":   {options([]byte{2, 1}, stamp), 0, false},
		"other too long":      {options([]byte{2, 13}, stamp), 0, false},
		"other to the end":    {options([]byte{2, 12}, stamp), 0, false},
		"inside another":      {options([]byte{5, 12}, stamp), 0, false},
		"wrong, then right":   {options([]byte{8, 3, 0}, stamp), 0, false},
		"other 255":           {options([]byte{2, 255}, stamp), 0, false},
	} {
		at, ok := tcp.Stamps(x.b)
		if at != x.want || ok != x.ok {
			t.Errorf("%s: Stamps %d %v", name, at, ok)
		}
		val, echo, ok := tcp.Segment{Options: x.b}.Stamp()
		if ok != x.ok || ok && (val != 0xa0a1a2a3 || echo != 0xb0b1b2b3) || !ok && (val != 0 || echo != 0) {
			t.Errorf("%s: Stamp %x %x %v", name, val, echo, ok)
		}
	}
}

// P6.4: WithVal and WithEcho replace an integer and update Sum as the document words it.
func TestWith(t *testing.T) {
	for _, ahead := range [][]byte{nil, {1}, {1, 1}, {3, 3, 0}} {
		s := known
		s.Options = options(ahead, []byte{8, 10}, ten, []byte{0, 0, 0})
		at := len(ahead) + 2
		val, echo := uint32(0xa0a1a2a3), uint32(0xb0b1b2b3)
		now := uint32(0xc1d2e3f4)
		turned := now
		if at%2 == 1 {
			val, echo, turned = 0xa1a2a3a0, 0xb1b2b3b0, 0xd2e3f4c1
		}
		want := s
		want.Options = bytes.Clone(s.Options)
		copy(want.Options[at:], []byte{0xc1, 0xd2, 0xe3, 0xf4})
		want.Sum = sum.UpdateLong(s.Sum, val, turned)
		if got := s.WithVal(now); !same(got, want) {
			t.Errorf("WithVal at %d: %+v, want %+v", at, got, want)
		}
		want.Options = bytes.Clone(s.Options)
		copy(want.Options[at+4:], []byte{0xc1, 0xd2, 0xe3, 0xf4})
		want.Sum = sum.UpdateLong(s.Sum, echo, turned)
		got := s.WithEcho(now)
		if !same(got, want) {
			t.Errorf("WithEcho at %d: %+v, want %+v", at, got, want)
		}
		if !bytes.Equal(s.Options, options(ahead, []byte{8, 10}, ten, []byte{0, 0, 0})) {
			t.Error("With wrote into its argument")
		}
		got.Load[0] = 0
		if known.Load[0] != 50 {
			t.Error("WithEcho shares the load")
		}
	}
}

// P6.4: a segment without timestamps stays as it is.
func TestWithout(t *testing.T) {
	for _, o := range [][]byte{nil, {1, 1, 1, 0}, options([]byte{8, 9}, ten)} {
		s := known
		s.Options = o
		if got := s.WithVal(7); !same(got, s) {
			t.Errorf("WithVal %+v", got)
		}
		if got := s.WithEcho(7); !same(got, s) {
			t.Errorf("WithEcho %+v", got)
		}
	}
	known.WithVal(7).Options[0] = 9
	known.WithEcho(7).Load[0] = 9
	if known.Options[0] != 1 || known.Load[0] != 50 {
		t.Error("an unchanged result shares its argument")
	}
}

// P6.4: SYN without ACK, RST and FIN opens a connection, whatever the other flags are.
func TestFirst(t *testing.T) {
	for f := range 256 {
		want := f&2 != 0 && f&16 == 0 && f&4 == 0 && f&1 == 0
		if got := (tcp.Segment{Flags: uint8(f)}).First(); got != want {
			t.Errorf("First of flags %x: %v", f, got)
		}
	}
}

// P6.5: Parse inverts Bytes, and a segment that is Fine stays so with other timestamps.
func TestInverse(t *testing.T) {
	rnd := rand.New(rand.NewSource(1))
	for range 2000 {
		s := tcp.Segment{
			SrcPort: uint16(rnd.Uint32()), DstPort: uint16(rnd.Uint32()), Seq: rnd.Uint32(), Ack: rnd.Uint32(), Flags: uint8(rnd.Uint32()),
			Window: uint16(rnd.Uint32()), Sum: uint16(rnd.Uint32()), Urgent: uint16(rnd.Uint32()), Load: make([]byte, rnd.Intn(20)),
		}
		rnd.Read(s.Load)
		s.Options = options(bytes.Repeat([]byte{1}, rnd.Intn(8)), []byte{8, 10}, ten, make([]byte, 8))
		s.Options = s.Options[:len(s.Options)/4*4]
		if got, e := tcp.Parse(s.Bytes()); e != api.OK || !same(got, s) {
			t.Fatalf("Parse: %+v %d, want %+v", got, e, s)
		}
		a, b := src4, dst4
		if rnd.Intn(2) == 0 {
			a, b = src6, dst6
		}
		s = s.Summed(a, b)
		for range 3 {
			if s = s.WithVal(rnd.Uint32()); !tcp.Fine(s.Bytes(), a, b) {
				t.Fatalf("not Fine after WithVal: %+v", s)
			}
			if s = s.WithEcho(rnd.Uint32()); !tcp.Fine(s.Bytes(), a, b) {
				t.Fatalf("not Fine after WithEcho: %+v", s)
			}
		}
	}
}
