package journal_test

import (
	"bytes"
	"hash/crc32"
	"math/rand"
	"testing"

	"counterfoil/api"
	"counterfoil/disk"
	"counterfoil/journal"
	"counterfoil/octet"
)

// slowFrame encodes a record of any length as the document words it.
func slowFrame(num uint64, b []byte) []byte {
	head := octet.Put(octet.Put(nil, num, 8), uint64(len(b)), 2)
	sum := crc32.Checksum(append(bytes.Clone(head), b...), crc32.MakeTable(crc32.Castagnoli))
	return append(octet.Put(head, uint64(sum), 4), b...)
}

func same(a [][]byte, b ...[]byte) bool {
	if len(a) != len(b) {
		return false
	}
	for i := range a {
		if !bytes.Equal(a[i], b[i]) {
			return false
		}
	}
	return true
}

// P25.1: the encoded record, and its bounds.
func TestFrame(t *testing.T) {
	for _, num := range []uint64{0, 1, 0x0102030405060708, 1<<64 - 1} {
		for _, n := range []int{0, 1, 9, 255, 256, 4096} {
			b := bytes.Repeat([]byte{0xa7, 3}, n)[:n]
			if got := journal.Frame(num, b); !bytes.Equal(got, slowFrame(num, b)) {
				t.Errorf("Frame %x of %d bytes", num, n)
			}
		}
	}
	if got := journal.Frame(1, make([]byte, 4097)); len(got) != 0 || journal.MostRecord != 4096 {
		t.Errorf("Frame of 4097 bytes: %d", len(got))
	}
	b := make([]byte, 3, 40)
	journal.Frame(1, b)[14] = 9
	if b[0] != 0 || !bytes.Equal(b[:40], make([]byte, 40)) {
		t.Error("Frame shares its argument")
	}
}

// P25.1: the longest prefix of records with the numbers 1, 2 and so on.
func TestScan(t *testing.T) {
	a, b, c := []byte("first"), []byte{}, bytes.Repeat([]byte{7}, 4096)
	one, two, three := slowFrame(1, a), slowFrame(2, b), slowFrame(3, c)
	join := func(l ...[]byte) []byte { return bytes.Join(l, nil) }
	long := make([]byte, 4097)
	wrong := func(x []byte, at int) []byte {
		y := bytes.Clone(x)
		y[at] ^= 1
		return y
	}
	for name, x := range map[string]struct {
		b    []byte
		want [][]byte
		n    int
	}{
		"nothing": {nil, nil, 0}, "one": {one, [][]byte{a}, 19}, "three": {join(one, two, three), [][]byte{a, b, c}, 19 + 14 + 4110}, "more behind": {join(one, two, []byte{1, 2}), [][]byte{a, b}, 33},
		"a head behind": {join(one, two[:13]), [][]byte{a}, 19}, "the record cut": {join(one, two, three[:4109]), [][]byte{a, b}, 33}, "wrong order": {join(two, one), nil, 0},
		"a gap": {join(one, three), [][]byte{a}, 19}, "twice": {join(one, one), [][]byte{a}, 19}, "number 0": {slowFrame(0, a), nil, 0}, "too long": {join(slowFrame(1, long)), nil, 0},
		"too long, later": {join(one, slowFrame(2, long), three), [][]byte{a}, 19}, "empty record": {slowFrame(1, nil), [][]byte{nil}, 14}, "again from 1": {join(one, two, one), [][]byte{a, b}, 33},
	} {
		if l, n := journal.Scan(x.b); !same(l, x.want...) || n != x.n {
			t.Errorf("%s: %d records, %d bytes, want %d and %d", name, len(l), n, len(x.want), x.n)
		}
	}
	for at := range one {
		if l, n := journal.Scan(wrong(one, at)); len(l) != 0 || n != 0 {
			t.Errorf("byte %d changed: %d records", at, len(l))
		}
		if l, n := journal.Scan(one[:at]); len(l) != 0 || n != 0 {
			t.Errorf("%d bytes: %d records", at, len(l))
		}
	}
	all := join(one, two)
	l, _ := journal.Scan(all)
	l[0][0] = 'x'
	_ = append(l[0], 'x')
	if !bytes.Equal(all, join(one, two)) {
		t.Error("Scan shares its argument")
	}
}

// P25.2: Open reads the records of a disk, and cuts off what follows them.
func TestOpen(t *testing.T) {
	d := disk.New(1000)
	whole := append(slowFrame(1, []byte("a")), slowFrame(2, []byte("bc"))...)
	d.Append(whole)
	d.Append([]byte("torn"))
	j, e := journal.Open(d)
	if e != api.OK || j.Len() != 2 || !bytes.Equal(d.Read(), whole) || d.Safe() != len(whole) || d.Syncs() != 0 {
		t.Fatalf("Open %d: %d records, %x", e, j.Len(), d.Read())
	}
	for n, want := range map[int]string{1: "a", 2: "bc"} {
		b, ok := j.Get(n)
		if !ok || string(b) != want {
			t.Errorf("Get(%d) %q %v", n, b, ok)
		}
		b[0] = 'x'
		if b, _ := j.Get(n); string(b) != want {
			t.Error("Get shares the journal")
		}
	}
	for _, n := range []int{0, -1, 3, 1 << 40, -1 << 63} {
		if b, ok := j.Get(n); ok || len(b) != 0 {
			t.Errorf("Get(%d) %q", n, b)
		}
	}
	if j, e := journal.Open(nil); j != nil || e != api.ErrNil {
		t.Errorf("Open of no disk: %d", e)
	}
	unsynced := disk.New(100)
	unsynced.Append(slowFrame(1, nil))
	if j, e := journal.Open(unsynced); e != api.OK || j.Len() != 1 || unsynced.Safe() != 14 {
		t.Errorf("Open of unsynced records: %d, %d safe", e, unsynced.Safe())
	}
	if j, e := journal.Open(disk.New(0)); e != api.OK || j.Len() != 0 {
		t.Errorf("Open of an empty disk: %d", e)
	}
}

// P25.3: Write appends to disk and journal; Sync makes it durable.
func TestWriteSync(t *testing.T) {
	d := disk.New(60)
	d.Append(slowFrame(1, []byte("a")))
	j, _ := journal.Open(d)
	b := []byte("bc")
	if e := j.Write(b); e != api.OK {
		t.Errorf("Write %d", e)
	}
	b[0] = 'x'
	want := append(slowFrame(1, []byte("a")), slowFrame(2, []byte("bc"))...)
	if got, ok := j.Get(2); !ok || string(got) != "bc" || j.Len() != 2 || !bytes.Equal(d.Read(), want) || d.Safe() != 15 {
		t.Errorf("after Write: %q, %x, %d safe", got, d.Read(), d.Safe())
	}
	if e := j.Sync(); e != api.OK || d.Safe() != 31 || d.Syncs() != 1 {
		t.Errorf("Sync %d: %d safe", e, d.Safe())
	}
	for _, x := range []struct {
		size int
		want api.Errno
	}{{4097, api.ErrLong}, {4096, api.ErrFull}, {16, api.ErrFull}, {15, api.OK}, {0, api.ErrFull}, {4097, api.ErrLong}} {
		before, n := d.Read(), j.Len()
		e := j.Write(make([]byte, x.size))
		if e != x.want || e != api.OK && (j.Len() != n || !bytes.Equal(d.Read(), before)) {
			t.Errorf("Write of %d bytes: %d, want %d", x.size, e, x.want)
		}
	}
	if j.Len() != 3 || d.Len() != 60 {
		t.Errorf("%d records, %d bytes", j.Len(), d.Len())
	}
}

// A journal keeps its records, whatever happens to the disk; a nil journal contains nothing.
func TestOthers(t *testing.T) {
	d := disk.New(100)
	j, _ := journal.Open(d)
	j.Write([]byte("a"))
	j.Write([]byte("b"))
	d.Cut(0)
	d.Append([]byte("junk"))
	if b, ok := j.Get(2); !ok || string(b) != "b" || j.Len() != 2 {
		t.Errorf("Get %q %v", b, ok)
	}
	var none *journal.Journal
	if b, ok := none.Get(1); ok || len(b) != 0 || none.Len() != 0 || none.Write(make([]byte, 5000)) != api.ErrNil || none.Write(nil) != api.ErrNil || none.Sync() != api.ErrNil {
		t.Error("nil journal")
	}
}

// P25.4, example 1: after a crash the synced records are there, and a prefix of the others.
func TestCrash(t *testing.T) {
	rnd := rand.New(rand.NewSource(1))
	for i := range 500 {
		d := disk.New(1 << 16)
		j, _ := journal.Open(d)
		var all [][]byte
		synced := 0
		for range rnd.Intn(12) {
			b := make([]byte, rnd.Intn(30))
			rnd.Read(b)
			if e := j.Write(b); e != api.OK {
				t.Fatalf("Write %d", e)
			}
			all = append(all, b)
			if rnd.Intn(3) == 0 {
				j.Sync()
				synced = len(all)
			}
		}
		d.Crash(rnd.Intn(d.Len()-d.Safe()+1), byte(rnd.Intn(2)*rnd.Intn(256)))
		again, e := journal.Open(d)
		if e != api.OK || again.Len() < synced || again.Len() > len(all) {
			t.Fatalf("crash %d: %d records of %d, %d synced", i, again.Len(), len(all), synced)
		}
		for n := range again.Len() {
			if b, _ := again.Get(n + 1); !bytes.Equal(b, all[n]) {
				t.Fatalf("crash %d: record %d", i, n+1)
			}
		}
		if e := again.Write([]byte("next")); e != api.OK {
			t.Fatalf("Write after a crash: %d", e)
		}
		if third, _ := journal.Open(d); third.Len() != again.Len() {
			t.Fatalf("crash %d: %d records, then %d", i, again.Len(), third.Len())
		}
	}
	d := disk.New(100)
	j, _ := journal.Open(d)
	j.Write([]byte("a"))
	j.Sync()
	j.Write([]byte("b"))
	d.Crash(3, 0)
	if j, _ := journal.Open(d); j.Len() != 1 {
		t.Errorf("example 1: %d records", j.Len())
	}
}
