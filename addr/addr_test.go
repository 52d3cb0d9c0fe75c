package addr_test

import (
	"bytes"
	"math/rand"
	"strings"
	"testing"

	"counterfoil/addr"
	"counterfoil/api"
)

var (
	four = addr.V4(10, 20, 30, 40)
	six  = addr.V6(0x20010db800000001, 0x000a00ff0100abcd)
)

// P3.1: V4 and V6 make addresses of their bytes and halves.
func TestMake(t *testing.T) {
	if four != (api.Addr{Low: 0x0a141e28}) {
		t.Errorf("V4: %+v", four)
	}
	if a := addr.V4(255, 254, 253, 252); a != (api.Addr{Low: 0xfffefdfc}) {
		t.Errorf("V4: %+v", a)
	}
	if six != (api.Addr{Six: true, High: 0x20010db800000001, Low: 0x000a00ff0100abcd}) {
		t.Errorf("V6: %+v", six)
	}
}

// P3.1: IPv6 addresses are valid, IPv4 ones if High is 0 and Low is below 2^32.
func TestRight(t *testing.T) {
	for _, x := range []struct {
		a    api.Addr
		want bool
	}{
		{api.Addr{}, true}, {four, true}, {six, true}, {addr.V6(0, 0), true}, {addr.V6(1<<64-1, 1<<64-1), true},
		{api.Addr{Low: 1<<32 - 1}, true}, {api.Addr{Low: 1 << 32}, false}, {api.Addr{Low: 1<<64 - 1}, false},
		{api.Addr{High: 1}, false}, {api.Addr{High: 1, Low: 1}, false}, {api.Addr{High: 1, Low: 1 << 32}, false},
	} {
		if got := addr.Right(x.a); got != x.want {
			t.Errorf("Right(%+v) = %v", x.a, got)
		}
	}
}

// P3.1: Size, Bytes, and Of as their inverse; ErrShort for other lengths.
func TestBytes(t *testing.T) {
	if addr.Size(four) != 4 || addr.Size(six) != 16 {
		t.Error("Size")
	}
	if b := addr.Bytes(four); !bytes.Equal(b, []byte{10, 20, 30, 40}) {
		t.Errorf("Bytes %v", b)
	}
	want := []byte{0x20, 1, 0xd, 0xb8, 0, 0, 0, 1, 0, 0xa, 0, 0xff, 1, 0, 0xab, 0xcd}
	if b := addr.Bytes(six); !bytes.Equal(b, want) {
		t.Errorf("Bytes %x", b)
	}
	for _, a := range []api.Addr{four, six, {}, addr.V6(0, 0), addr.V6(0, 1<<64-1), addr.V4(255, 255, 255, 255)} {
		if got, e := addr.Of(addr.Bytes(a)); got != a || e != api.OK {
			t.Errorf("Of(Bytes(%+v)) = %+v %d", a, got, e)
		}
	}
	for n := range 40 {
		if n == 4 || n == 16 {
			continue
		}
		if got, e := addr.Of(bytes.Repeat([]byte{1}, n)); got != (api.Addr{}) || e != api.ErrShort {
			t.Errorf("Of %d bytes: %+v %d", n, got, e)
		}
	}
}

// P3.2: Six first, then High, then Low; for invalid values, too.
func TestCompare(t *testing.T) {
	rising := []api.Addr{
		{}, {Low: 1}, {Low: 1 << 40}, {Low: 1<<64 - 1}, {High: 1}, {High: 1, Low: 7}, {High: 1<<64 - 1},
		addr.V6(0, 0), addr.V6(0, 1), addr.V6(0, 1<<64-1), addr.V6(1, 0), addr.V6(1, 5), addr.V6(1<<64-1, 0),
	}
	for i, a := range rising {
		for j, b := range rising {
			want := 0
			if i < j {
				want = -1
			} else if i > j {
				want = 1
			}
			if got := addr.Compare(a, b); got != want {
				t.Errorf("Compare(%+v, %+v) = %d, want %d", a, b, got, want)
			}
		}
	}
}

// P3.3: decimal digits, those of 0 for negative numbers.
func TestDecimal(t *testing.T) {
	for n, want := range map[int]string{
		0: "0", 7: "7", 10: "10", 255: "255", 1<<63 - 1: "9223372036854775807", -1: "0", -1 << 63: "0", 1000000: "1000000",
	} {
		if got := addr.Decimal(n); got != want {
			t.Errorf("Decimal(%d) = %q", n, got)
		}
	}
}

// P3.3: Number accepts exactly the digits of the base, without leading zeros, up to most.
func TestNumber(t *testing.T) {
	for _, x := range []struct {
		s          string
		base, most int
		want       int
		ok         bool
	}{
		{"0", 10, 0, 0, true}, {"0", 16, 0, 0, true}, {"7", 10, 7, 7, true}, {"8", 10, 7, 0, false}, {"255", 10, 255, 255, true},
		{"256", 10, 255, 0, false}, {"9", 10, 9, 9, true}, {"10", 10, 9, 0, false}, {"10", 10, 10, 10, true},
		{"1234567890", 10, 1 << 40, 1234567890, true}, {"1099511627776", 10, 1 << 40, 1 << 40, true},
		{"1099511627777", 10, 1 << 40, 0, false}, {"1099511627776", 10, 1<<40 - 1, 0, false},
		{"10000000000", 16, 1 << 40, 1 << 40, true}, {"10000000001", 16, 1 << 40, 0, false},
		{"ffff", 16, 65535, 65535, true}, {"10000", 16, 65535, 0, false}, {"abcdef", 16, 1 << 30, 0xabcdef, true},
		{"a", 16, 10, 10, true}, {"f", 16, 15, 15, true}, {"f", 16, 14, 0, false}, {"10", 16, 16, 16, true},
		{"a", 10, 100, 0, false}, {"1a", 10, 100, 0, false}, {"F", 16, 100, 0, false}, {"g", 16, 100, 0, false},
		{"A", 16, 100, 0, false}, {"`", 16, 100, 0, false}, {"/", 10, 100, 0, false}, {":", 10, 100, 0, false},
		{"", 10, 100, 0, false}, {"", 16, 100, 0, false}, {"00", 10, 100, 0, false}, {"01", 10, 100, 0, false},
		{"0a", 16, 100, 0, false}, {"+1", 10, 100, 0, false}, {"-1", 10, 100, 0, false}, {"-0", 10, 100, 0, false},
		{" 1", 10, 100, 0, false}, {"1 ", 10, 100, 0, false}, {"1_0", 10, 100, 0, false}, {"0x1", 16, 100, 0, false},
		{"1.0", 10, 100, 0, false}, {"\u0661", 10, 100, 0, false}, {"1", 10, 0, 0, false},
		{"18446744073709551617", 10, 1 << 40, 0, false}, {"10000000000000001", 16, 1 << 40, 0, false},
		{strings.Repeat("9", 100), 10, 1 << 40, 0, false}, {strings.Repeat("f", 100), 16, 1 << 40, 0, false},
	} {
		if got, ok := addr.Number(x.s, x.base, x.most); got != x.want || ok != x.ok {
			t.Errorf("Number(%q, %d, %d) = %d %v", x.s, x.base, x.most, got, ok)
		}
	}
}

// P3.3: every byte that is no digit spoils a number.
func TestNumberDigits(t *testing.T) {
	for c := range 256 {
		s := "1" + string([]byte{byte(c)})
		isTen := c >= '0' && c <= '9'
		if _, ok := addr.Number(s, 10, 1000); ok != isTen {
			t.Errorf("Number(%q, 10) %v", s, ok)
		}
		if _, ok := addr.Number(s, 16, 1000); ok != (isTen || c >= 'a' && c <= 'f') {
			t.Errorf("Number(%q, 16) %v", s, ok)
		}
	}
}

// P3.4: addresses as text.
func TestText(t *testing.T) {
	for want, a := range map[string]api.Addr{
		"10.0.0.1": addr.V4(10, 0, 0, 1), "10.20.30.40": four, "0.0.0.0": {}, "255.255.255.255": addr.V4(255, 255, 255, 255),
		"2001:db8:0:1:a:ff:100:abcd": six, "0:0:0:0:0:0:0:0": addr.V6(0, 0), "0:0:0:0:0:0:0:1": addr.V6(0, 1),
		"ffff:ffff:ffff:ffff:ffff:ffff:ffff:ffff": addr.V6(1<<64-1, 1<<64-1),
	} {
		if got := addr.Text(a); got != want {
			t.Errorf("Text(%+v) = %q, want %q", a, got, want)
		}
		if got, e := addr.Parse(want); got != a || e != api.OK {
			t.Errorf("Parse(%q) = %+v %d", want, got, e)
		}
	}
}

// P3.4: Parse rejects every other string.
func TestParseErrors(t *testing.T) {
	for _, s := range []string{
		"", ".", "...", ":", ":::::::", "10.0.0.01", "10.0.0", "10.0.0.1.2", "10.0.0.256", "10.0.0.", ".10.0.0", "10..0.1",
		"10.0.0.1 ", " 10.0.0.1", "10.0.0.a", "10.0.0.-1", "1", "10,0,0,1", "10.0.0.1\n", "0x10.0.0.1", "+1.0.0.0",
		"0:0:0:0:0:0:0", "0:0:0:0:0:0:0:0:0", "::", "::1", "0:0:0:0:0:0:0:10000", "0:0:0:0:0:0:0:0a", "0:0:0:0:0:0:0:A",
		"0:0:0:0:0:0:0:g", "0:0:0:0:0:0:0:", ":0:0:0:0:0:0:0", "0:0:0:0:0:0:10.0.0.1", "1:2:3:4", "a.b.c.d", "1:2:3:4:5:6:7.8",
		"0:0:0:0:0:0:0:00000", "[0:0:0:0:0:0:0:0]", "1.2.3.4.5.6.7.8.9.10.11.12.13.14.15.16", "0:0:0:0:0:0:0:1%1", "1.2", "1:2",
		"1.2.3.4:5.6.7.8", "0:0:0:0:0:0:0:ff ",
	} {
		if got, e := addr.Parse(s); got != (api.Addr{}) || e != api.ErrForm {
			t.Errorf("Parse(%q) = %+v %d", s, got, e)
		}
	}
}

// P3.5: Back exchanges both ends; Key writes addresses, ports and protocol.
func TestFlow(t *testing.T) {
	f := api.Flow{Src: four, Dst: addr.V4(1, 2, 3, 4), SrcPort: 0x1234, DstPort: 0x5678, Proto: 6}
	back := api.Flow{Src: addr.V4(1, 2, 3, 4), Dst: four, SrcPort: 0x5678, DstPort: 0x1234, Proto: 6}
	if got := addr.Back(f); got != back {
		t.Errorf("Back: %+v", got)
	}
	if got := addr.Key(f); !bytes.Equal(got, []byte{10, 20, 30, 40, 1, 2, 3, 4, 0x12, 0x34, 0x56, 0x78, 6}) {
		t.Errorf("Key: %x", got)
	}
	f.Src, f.Dst, f.Proto = six, addr.V6(1, 2), 255
	want := append(append(addr.Bytes(six), addr.Bytes(addr.V6(1, 2))...), 0x12, 0x34, 0x56, 0x78, 255)
	if got := addr.Key(f); !bytes.Equal(got, want) {
		t.Errorf("Key: %x", got)
	}
	f.Dst = four
	if got := addr.Key(f); len(got) != 25 || !bytes.Equal(got[16:20], []byte{10, 20, 30, 40}) {
		t.Errorf("Key of two families: %x", got)
	}
}

// P3.6: Parse inverts Text, and flows of one family that differ have different Keys.
func TestInverse(t *testing.T) {
	rnd := rand.New(rand.NewSource(1))
	keys := map[string]api.Flow{}
	for i := range 2000 {
		a, b := addr.V4(byte(rnd.Intn(3)), 0, 0, byte(rnd.Intn(256))), addr.V4(0, byte(rnd.Intn(3)), 0, 0)
		if i%2 == 0 {
			a, b = addr.V6(rnd.Uint64()>>rnd.Intn(64), rnd.Uint64()>>rnd.Intn(64)), addr.V6(0, uint64(rnd.Intn(3)))
		}
		if got, e := addr.Parse(addr.Text(a)); got != a || e != api.OK {
			t.Fatalf("Parse(%q) = %+v %d", addr.Text(a), got, e)
		}
		f := api.Flow{Src: a, Dst: b, SrcPort: uint16(rnd.Intn(3)), DstPort: uint16(rnd.Intn(3)), Proto: uint8(rnd.Intn(3))}
		k := string(addr.Key(f))
		if g, ok := keys[k]; ok && g != f {
			t.Fatalf("%+v and %+v have one Key", f, g)
		}
		keys[k] = f
	}
}
