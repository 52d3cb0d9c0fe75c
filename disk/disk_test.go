package disk_test

import (
	"bytes"
	"testing"

	"counterfoil/api"
	"counterfoil/disk"
)

// check compares a disk with its bytes, of which the first safe ones are durable.
func check(t *testing.T, name string, d *disk.Disk, all string, safe, syncs int) {
	t.Helper()
	if string(d.Read()) != all || d.Len() != len(all) || d.Safe() != safe || d.Syncs() != syncs {
		t.Errorf("%s: %q, Len %d, Safe %d, Syncs %d, want %q %d %d", name, d.Read(), d.Len(), d.Safe(), d.Syncs(), all, safe, syncs)
	}
}

// P24.1, P24.2: appended bytes are unsynced until Sync.
func TestAppendSync(t *testing.T) {
	d := disk.New(10)
	check(t, "new", d, "", 0, 0)
	b := []byte("abc")
	if e := d.Append(b); e != api.OK {
		t.Errorf("Append %d", e)
	}
	b[0] = 'x'
	check(t, "appended", d, "abc", 0, 0)
	if e := d.Sync(); e != api.OK {
		t.Errorf("Sync %d", e)
	}
	check(t, "synced", d, "abc", 3, 1)
	d.Append([]byte("de"))
	d.Append(nil)
	check(t, "appended", d, "abcde", 3, 1)
	d.Sync()
	d.Sync()
	check(t, "synced twice", d, "abcde", 5, 3)
	d.Read()[0] = 'x'
	_ = append(d.Read()[:2], 'x')
	check(t, "read", d, "abcde", 5, 3)
}

// P24.2: there is space for most bytes, and no more.
func TestAppendFull(t *testing.T) {
	d := disk.New(5)
	for _, x := range []struct {
		b    string
		want api.Errno
		all  string
	}{
		{"abcdef", api.ErrFull, ""}, {"abc", api.OK, "abc"}, {"def", api.ErrFull, "abc"}, {"de", api.OK, "abcde"}, {"f", api.ErrFull, "abcde"}, {"", api.OK, "abcde"},
	} {
		if e := d.Append([]byte(x.b)); e != x.want {
			t.Errorf("Append %q: %d", x.b, e)
		}
		check(t, "after "+x.b, d, x.all, 0, 0)
	}
	d.Cut(1)
	if e := d.Append([]byte("bcde")); e != api.OK {
		t.Errorf("Append after Cut: %d", e)
	}
	for _, most := range []int{0, -1, -1 << 63} {
		d := disk.New(most)
		if e := d.Append([]byte("a")); e != api.ErrFull || d.Append(nil) != api.OK {
			t.Errorf("a disk for %d bytes: %d", most, e)
		}
	}
}

// P24.2: Cut keeps a beginning, and makes it durable.
func TestCut(t *testing.T) {
	make := func() *disk.Disk {
		d := disk.New(10)
		d.Append([]byte("abc"))
		d.Sync()
		d.Append([]byte("de"))
		return d
	}
	for n := 0; n <= 5; n++ {
		d := make()
		if e := d.Cut(n); e != api.OK {
			t.Errorf("Cut(%d): %d", n, e)
		}
		check(t, "cut", d, "abcde"[:n], n, 1)
	}
	for _, n := range []int{-1, 6, 1 << 40, -1 << 63} {
		d := make()
		if e := d.Cut(n); e != api.ErrArg {
			t.Errorf("Cut(%d): %d", n, e)
		}
		check(t, "not cut", d, "abcde", 3, 1)
	}
}

// P24.3, example 1: a crash keeps the first unsynced bytes, and turns bits of the last one that it keeps.
func TestCrash(t *testing.T) {
	for _, x := range []struct {
		keep int
		bits byte
		all  string
		lost int
	}{
		{0, 1, "abc", 3}, {1, 0, "abcd", 2}, {1, 1, "abce", 2}, {2, 0x20, "abcdE", 1}, {3, 0, "abcdef", 0}, {3, 0xff, "abcde\x99", 0}, {4, 1, "abcdeg", 0},
		{1<<63 - 1, 0, "abcdef", 0}, {-1, 1, "abc", 3}, {-1 << 63, 1, "abc", 3},
	} {
		d := disk.New(10)
		d.Append([]byte("abc"))
		d.Sync()
		d.Append([]byte("def"))
		if lost := d.Crash(x.keep, x.bits); lost != x.lost {
			t.Errorf("Crash(%d, %d) lost %d", x.keep, x.bits, lost)
		}
		check(t, "crashed", d, x.all, len(x.all), 1)
		if lost := d.Crash(1, 0xff); lost != 0 {
			t.Errorf("the second crash lost %d", lost)
		}
		check(t, "crashed twice", d, x.all, len(x.all), 1)
	}
	d := disk.New(3)
	d.Append([]byte("abc"))
	if lost := d.Crash(1, 0); lost != 2 || d.Len() != 1 {
		t.Errorf("example 1: lost %d", lost)
	}
	d.Append([]byte("xy"))
	check(t, "appended after a crash", d, "axy", 1, 0)
	if lost := disk.New(5).Crash(3, 1); lost != 0 {
		t.Errorf("a crash of nothing lost %d", lost)
	}
}

// P24.3: what was read before a crash does not change.
func TestCrashMemory(t *testing.T) {
	d := disk.New(5)
	d.Append([]byte("abc"))
	before := d.Read()
	d.Crash(3, 0xff)
	if !bytes.Equal(before, []byte("abc")) {
		t.Error("Read shares the disk")
	}
}

// A nil disk contains nothing.
func TestNil(t *testing.T) {
	var d *disk.Disk
	check(t, "nil", d, "", 0, 0)
	if d.Append(nil) != api.ErrNil || d.Sync() != api.ErrNil || d.Cut(-1) != api.ErrNil || d.Cut(0) != api.ErrNil || d.Crash(1, 1) != 0 {
		t.Error("nil disk")
	}
}
