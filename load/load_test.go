package load_test

import (
	"bytes"
	"slices"
	"testing"

	"counterfoil/api"
	"counterfoil/load"
)

var known = load.Report{Backend: 0x21, Num: 0x0102030405060708, Load: 0x090a0b0c, Well: true}

var knownBytes = []byte{0x21, 1, 2, 3, 4, 5, 6, 7, 8, 9, 10, 11, 12, 1}

// P17.1: a report is valid if its backend is from 1 to 64.
func TestRight(t *testing.T) {
	for n, want := range map[int]bool{1: true, 64: true, 33: true, 0: false, 65: false, -1: false, 257: false, -1 << 63: false} {
		if got := (load.Report{Backend: n}).Right(); got != want {
			t.Errorf("Right of backend %d: %v", n, got)
		}
	}
}

// P17.1: the encoding; the backend's low 8 bits, or 0.
func TestBytes(t *testing.T) {
	if got := known.Bytes(); !bytes.Equal(got, knownBytes) {
		t.Errorf("Bytes %x", got)
	}
	for n, want := range map[int]byte{0: 0, 65: 65, 255: 255, 256: 0, 257: 1, 0x1234: 0x34, -1: 0, -5: 0, -1 << 63: 0} {
		got := (load.Report{Backend: n, Num: 1<<64 - 1, Load: 1<<32 - 1}).Bytes()
		if !bytes.Equal(got, append(append([]byte{want}, bytes.Repeat([]byte{255}, 12)...), 0)) {
			t.Errorf("Bytes of backend %d: %x", n, got)
		}
	}
}

// P17.1: Parse inverts Bytes for valid reports, and accepts nothing else.
func TestParse(t *testing.T) {
	for n := 1; n <= 64; n++ {
		r := load.Report{Backend: n, Num: uint64(n) << 50, Load: uint32(n) << 20, Well: n%2 == 0}
		if got, e := load.Parse(r.Bytes()); got != r || e != api.OK {
			t.Errorf("Parse of %+v: %+v %d", r, got, e)
		}
	}
	with := func(at int, c byte) []byte {
		b := bytes.Clone(knownBytes)
		b[at] = c
		return b
	}
	for name, b := range map[string][]byte{
		"nothing": nil, "13 bytes": knownBytes[:13], "15 bytes": append(bytes.Clone(knownBytes), 0), "backend 0": with(0, 0), "backend 65": with(0, 65), "backend 255": with(0, 255),
		"well 2": with(13, 2), "well 255": with(13, 255), "28 bytes": append(bytes.Clone(knownBytes), knownBytes...),
	} {
		if r, e := load.Parse(b); e != api.ErrForm || r != (load.Report{}) {
			t.Errorf("%s: %+v %d", name, r, e)
		}
	}
}

// P17.2: Note keeps the report with the greatest Num of each backend.
func TestNote(t *testing.T) {
	b := load.New()
	for _, x := range []struct {
		r    load.Report
		want api.Errno
	}{
		{load.Report{Backend: 3, Num: 2, Load: 20, Well: true}, api.OK}, {load.Report{Backend: 3, Num: 1, Load: 10}, api.ErrTwice},
		{load.Report{Backend: 3, Num: 2, Load: 21}, api.ErrTwice}, {load.Report{Backend: 0, Num: 9}, api.ErrArg}, {load.Report{Backend: 65, Num: 9}, api.ErrArg},
		{load.Report{Backend: 64, Num: 0, Load: 5}, api.OK}, {load.Report{Backend: 64, Num: 0, Load: 6}, api.ErrTwice}, {load.Report{Backend: 1, Num: 1<<64 - 1}, api.OK},
	} {
		if e := b.Note(x.r); e != x.want {
			t.Errorf("Note of %+v: %d, want %d", x.r, e, x.want)
		}
	}
	if r, ok := b.Get(3); !ok || r != (load.Report{Backend: 3, Num: 2, Load: 20, Well: true}) {
		t.Errorf("Get %+v %v", r, ok)
	}
	newer := load.Report{Backend: 3, Num: 3, Load: 1}
	if e := b.Note(newer); e != api.OK {
		t.Errorf("Note of a newer one: %d", e)
	}
	if r, ok := b.Get(3); !ok || r != newer {
		t.Errorf("Get %+v %v", r, ok)
	}
	for _, n := range []int{0, 2, 65, -1} {
		if r, ok := b.Get(n); ok || r != (load.Report{}) {
			t.Errorf("Get(%d) %+v %v", n, r, ok)
		}
	}
}

// P17.2: All is ascending, and Forget removes a report.
func TestAllForget(t *testing.T) {
	b := load.New()
	var want []int
	for i := range 64 {
		b.Note(load.Report{Backend: (i*37)%64 + 1, Num: 7})
		want = append(want, i+1)
	}
	if got := b.All(); !slices.Equal(got, want) {
		t.Errorf("All %v", got)
	}
	b.Forget(10)
	b.Forget(10)
	b.Forget(99)
	if got := b.All(); len(got) != 63 || slices.Contains(got, 10) {
		t.Errorf("All %v", got)
	}
	if _, ok := b.Get(10); ok {
		t.Error("Get of a forgotten report")
	}
	if e := b.Note(load.Report{Backend: 10, Num: 1}); e != api.OK {
		t.Errorf("Note of a forgotten backend: %d", e)
	}
}

// P17.3: Well and Load of the latest report, or of none.
func TestWellLoad(t *testing.T) {
	b := load.New()
	if !b.Well(5) || b.Load(5) != 0 {
		t.Error("no report")
	}
	for i, x := range []load.Report{{Load: 3, Well: true}, {Load: 4}, {Load: 1<<32 - 1, Well: true}} {
		x.Backend, x.Num = 5, uint64(i+1)
		b.Note(x)
		if b.Well(5) != x.Well || b.Load(5) != x.Load {
			t.Errorf("%+v: %v %d", x, b.Well(5), b.Load(5))
		}
	}
	b.Note(load.Report{Backend: 6, Num: 1})
	if b.Well(6) || !b.Well(7) {
		t.Error("Well of another")
	}
	b.Forget(6)
	if !b.Well(6) {
		t.Error("Well of a forgotten one")
	}
}

// A nil Book and a zero one contain nothing, and Note returns ErrNil ahead of all other errors.
func TestNil(t *testing.T) {
	for _, b := range []*load.Book{nil, {}} {
		if b.Note(known) != api.ErrNil || b.Note(load.Report{}) != api.ErrNil {
			t.Error("Note")
		}
		b.Forget(1)
		if r, ok := b.Get(0x21); ok || r != (load.Report{}) || !b.Well(0x21) || b.Load(0x21) != 0 || len(b.All()) != 0 {
			t.Error("something is there")
		}
	}
}
