package icmp_test

import (
	"bytes"
	"math/rand"
	"reflect"
	"testing"

	"counterfoil/addr"
	"counterfoil/api"
	"counterfoil/icmp"
	"counterfoil/ip6"
	"counterfoil/sum"
)

var known = icmp.Message{Type: 1, Code: 2, Sum: 0x0304, Word: 0x05060708, Load: []byte{50, 51, 52}}

var knownBytes = []byte{1, 2, 3, 4, 5, 6, 7, 8, 50, 51, 52}

var (
	src4, dst4 = addr.V4(10, 0, 0, 1), addr.V4(192, 168, 3, 4)
	src6, dst6 = addr.V6(0x20010db800000000, 1), addr.V6(0x20010db800000000, 2)
)

func same(a, b icmp.Message) bool {
	return a.Type == b.Type && a.Code == b.Code && a.Sum == b.Sum && a.Word == b.Word && bytes.Equal(a.Load, b.Load)
}

// The numbers of types and codes.
func TestConstants(t *testing.T) {
	got := []int{
		icmp.Size, icmp.Unreachable4, icmp.Echo4, icmp.Exceeded4, icmp.Unreachable6, icmp.TooBig6, icmp.Exceeded6,
		icmp.Problem6, icmp.Echo6, icmp.NeedsFragments, icmp.Quote4, icmp.Quote6,
	}
	if want := []int{8, 3, 8, 11, 1, 2, 3, 4, 128, 4, 548, 1232}; !reflect.DeepEqual(got, want) {
		t.Errorf("%v, want %v", got, want)
	}
}

// P8.1: Parse and Bytes; ErrShort for fewer than 8 bytes.
func TestParseBytes(t *testing.T) {
	b := append(bytes.Clone(knownBytes), 99)[:len(knownBytes)]
	before := bytes.Clone(b[:len(b)+1])
	m, e := icmp.Parse(b)
	if e != api.OK || !same(m, known) {
		t.Errorf("Parse: %+v %d", m, e)
	}
	m.Load[0] = 0
	_ = append(m.Load, 1)
	if !bytes.Equal(b[:len(b)+1], before) {
		t.Error("Parse shares its argument")
	}
	if got := known.Bytes(); !bytes.Equal(got, knownBytes) {
		t.Errorf("Bytes %x", got)
	}
	known.Bytes()[8] = 0
	if known.Load[0] != 50 {
		t.Error("Bytes shares the load")
	}
	for n := range 8 {
		if m, e := icmp.Parse(knownBytes[:n]); e != api.ErrShort || !same(m, icmp.Message{}) {
			t.Errorf("Parse of %d bytes: %+v %d", n, m, e)
		}
	}
	if m, e := icmp.Parse(knownBytes[:8]); e != api.OK || len(m.Load) != 0 || m.Word != 0x05060708 {
		t.Errorf("Parse of 8 bytes: %+v %d", m, e)
	}
}

// P8.2: the checksum is of the message alone for IPv4, and of a pseudo-header, too, for IPv6.
func TestSummed(t *testing.T) {
	bare := []byte{1, 2, 0, 0, 5, 6, 7, 8, 50, 51, 52}
	want4 := sum.Of(bare)
	want6 := sum.Of(append(ip6.Pseudo(src6, dst6, 58, 11), bare...))
	got4, got6 := known.Summed(src4, dst4), known.Summed(src6, dst6)
	want := known
	want.Sum = want4
	if !same(got4, want) {
		t.Errorf("Summed %+v, want %+v", got4, want)
	}
	want.Sum = want6
	if !same(got6, want) {
		t.Errorf("Summed %+v, want %+v", got6, want)
	}
	if !got4.Fine(src4, dst4) || !got4.Fine(dst4, dst4) || got4.Fine(src6, dst6) || known.Fine(src4, dst4) {
		t.Error("Fine between addresses of IPv4")
	}
	if !got6.Fine(src6, dst6) || got6.Fine(dst6, dst6) || got6.Fine(src4, dst4) || known.Fine(src6, dst6) {
		t.Error("Fine between addresses of IPv6")
	}
	got4.Load[0], got6.Load[0] = 1, 1
	if got4.Fine(src4, dst4) || got6.Fine(src6, dst6) || known.Load[0] != 50 {
		t.Error("a changed message is Fine, or Summed shares its argument")
	}
}

// P8.3: which types are errors, and which ask for an echo.
func TestErrorEcho(t *testing.T) {
	for n := range 256 {
		m := icmp.Message{Type: uint8(n)}
		if m.Error(true) != (n >= 1 && n <= 4) || m.Error(false) != (n == 3 || n == 11 || n == 12) {
			t.Errorf("Error of type %d", n)
		}
		if m.Echo(true) != (n == 128) || m.Echo(false) != (n == 8) {
			t.Errorf("Echo of type %d", n)
		}
	}
}

// P8.4: the message quotes the beginning of the packet.
func TestTooBig(t *testing.T) {
	m := icmp.TooBig([]byte{7, 8, 9}, 1400, false)
	if !bytes.Equal(m.Bytes(), []byte{3, 4, 0, 0, 0, 0, 0x05, 0x78, 7, 8, 9}) {
		t.Errorf("example 1: %x", m.Bytes())
	}
	if m := icmp.TooBig(nil, 65535, true); !bytes.Equal(m.Bytes(), []byte{2, 0, 0, 0, 0, 0, 255, 255}) {
		t.Errorf("TooBig of nothing: %x", m.Bytes())
	}
	packet := make([]byte, 2000)
	for i := range packet {
		packet[i] = byte(i * 7)
	}
	for n := range packet {
		m4, m6 := icmp.TooBig(packet[:n], 1, false), icmp.TooBig(packet[:n], 1, true)
		if !bytes.Equal(m4.Load, packet[:min(n, 548)]) || !bytes.Equal(m6.Load, packet[:min(n, 1232)]) {
			t.Fatalf("TooBig of %d bytes: %d and %d", n, len(m4.Load), len(m6.Load))
		}
	}
	m = icmp.TooBig(packet, 1, false)
	m.Load[0] = 99
	_ = append(m.Load, 99)
	if packet[0] != 0 || packet[548] != byte(548*7%256) {
		t.Error("TooBig shares its argument")
	}
}

// P8.5: Parse inverts Bytes, and what Summed returns is Fine.
func TestInverse(t *testing.T) {
	rnd := rand.New(rand.NewSource(1))
	for range 2000 {
		m := icmp.Message{Type: uint8(rnd.Uint32()), Code: uint8(rnd.Uint32()), Sum: uint16(rnd.Uint32()), Word: rnd.Uint32(), Load: make([]byte, rnd.Intn(30))}
		rnd.Read(m.Load)
		if got, e := icmp.Parse(m.Bytes()); e != api.OK || !same(got, m) {
			t.Fatalf("Parse: %+v %d, want %+v", got, e, m)
		}
		if !m.Summed(src4, dst4).Fine(src4, dst4) || !m.Summed(src6, dst6).Fine(src6, dst6) {
			t.Fatalf("a summed message is not Fine: %+v", m)
		}
	}
}
