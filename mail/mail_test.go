package mail_test

import (
	"testing"

	"counterfoil/api"
	"counterfoil/mail"
)

func letter(node int, text string) mail.Letter {
	return mail.Letter{Node: node, Back: node%2 == 1, B: []byte(text)}
}

// filled returns a Mail with letters of these nodes, whose texts are a, b and so on.
func filled(most int, nodes ...int) *mail.Mail {
	m := mail.New(most)
	for i, n := range nodes {
		m.Send(letter(n, string(rune('a'+i))))
	}
	return m
}

// check takes all letters, and compares them with nodes and texts.
func check(t *testing.T, name string, m *mail.Mail, lost int, texts string, nodes ...int) {
	t.Helper()
	if m.Len() != len(nodes) || m.Lost() != lost {
		t.Errorf("%s: Len %d, Lost %d, want %d %d", name, m.Len(), m.Lost(), len(nodes), lost)
	}
	for i, n := range nodes {
		x, e := m.Take(0)
		if e != api.OK || x.Node != n || x.Back != (n%2 == 1) || string(x.B) != texts[i:i+1] {
			t.Errorf("%s: letter %d is %+v %d, want node %d, %q", name, i, x, e, n, texts[i:i+1])
		}
	}
	if m.Len() != 0 || m.Lost() != lost {
		t.Errorf("%s: Len %d, Lost %d at the end", name, m.Len(), m.Lost())
	}
}

// P34.1: letters are numbered as they were sent; without space they are lost.
func TestSend(t *testing.T) {
	check(t, "new", mail.New(5), 0, "")
	m := mail.New(2)
	for i, want := range []api.Errno{api.OK, api.OK, api.ErrFull, api.ErrFull} {
		if e := m.Send(letter(i, string(rune('a'+i)))); e != want {
			t.Errorf("Send %d: %d", i, e)
		}
	}
	check(t, "full", m, 2, "ab", 0, 1)
	if e := m.Send(letter(7, "z")); e != api.OK {
		t.Errorf("Send %d", e)
	}
	check(t, "again", m, 2, "z", 7)
	for _, most := range []int{0, -1, -1 << 63} {
		m := mail.New(most)
		if e := m.Send(letter(1, "a")); e != api.ErrFull || m.Len() != 0 || m.Lost() != 1 {
			t.Errorf("space for %d: %d", most, e)
		}
	}
}

// Memory: a letter's bytes are its own.
func TestMemory(t *testing.T) {
	m := mail.New(5)
	b := []byte("abc")
	m.Send(mail.Letter{Node: 1, B: b})
	b[0] = 'x'
	m.Twice(0)
	one, _ := m.Take(0)
	if string(one.B) != "abc" {
		t.Errorf("Send retains its argument: %s", one.B)
	}
	one.B[1] = 'x'
	if two, _ := m.Take(0); string(two.B) != "abc" {
		t.Errorf("two letters share their bytes: %s", two.B)
	}
}

// P34.2, example 1: Take removes a letter; letters behind it move up.
func TestTake(t *testing.T) {
	m := filled(5, 1, 2, 3, 4)
	if x, e := m.Take(2); e != api.OK || x.Node != 3 || string(x.B) != "c" || !x.Back {
		t.Errorf("Take %+v %d", x, e)
	}
	check(t, "taken", m, 0, "abd", 1, 2, 4)
	m = filled(5, 1, 2)
	if x, e := m.Take(1); e != api.OK || x.Node != 2 || m.Len() != 1 {
		t.Errorf("Take of the last one: %+v %d", x, e)
	}
	for _, i := range []int{1, -1, 2, 1 << 40, -1 << 63} {
		if x, e := m.Take(i); e != api.ErrNone || x.Node != 0 || x.Back || len(x.B) != 0 {
			t.Errorf("Take(%d): %+v %d", i, x, e)
		}
		if m.Drop(i) != api.ErrNone || m.Twice(i) != api.ErrNone {
			t.Errorf("Drop or Twice of letter %d", i)
		}
	}
	check(t, "errors", m, 0, "a", 1)
}

// P34.2: Drop loses a letter, and Twice sends it once more.
func TestDropTwice(t *testing.T) {
	m := filled(4, 1, 2, 3)
	if e := m.Drop(0); e != api.OK {
		t.Errorf("Drop %d", e)
	}
	if e := m.Twice(0); e != api.OK {
		t.Errorf("Twice %d", e)
	}
	if e := m.Twice(1); e != api.OK {
		t.Errorf("Twice %d", e)
	}
	if e := m.Twice(0); e != api.ErrFull || m.Len() != 4 {
		t.Errorf("Twice without space: %d", e)
	}
	check(t, "twice", m, 2, "bcbc", 2, 3, 2, 3)
}

// P34.2: Clear loses all letters of a node, in both directions.
func TestClear(t *testing.T) {
	m := mail.New(9)
	for i, n := range []int{1, 2, 1, 3, 2} {
		m.Send(mail.Letter{Node: n, Back: i%2 == 0, B: []byte{byte('a' + i)}})
	}
	if n := m.Clear(2); n != 2 || m.Len() != 3 || m.Lost() != 2 {
		t.Errorf("Clear %d: Len %d, Lost %d", n, m.Len(), m.Lost())
	}
	if n := m.Clear(2); n != 0 || m.Len() != 3 || m.Lost() != 2 {
		t.Errorf("Clear again: %d", n)
	}
	if n := m.Clear(-1); n != 0 {
		t.Errorf("Clear of nobody: %d", n)
	}
	for _, want := range []string{"a", "c", "d"} {
		if x, _ := m.Take(0); string(x.B) != want {
			t.Errorf("letter %s, want %s", x.B, want)
		}
	}
	m = filled(3, 4, 4, 4)
	if n := m.Clear(4); n != 3 || m.Len() != 0 || m.Lost() != 3 || m.Send(letter(1, "a")) != api.OK {
		t.Errorf("Clear of all: %d", n)
	}
}

// A nil Mail contains nothing.
func TestNil(t *testing.T) {
	var m *mail.Mail
	if m.Len() != 0 || m.Lost() != 0 || m.Clear(0) != 0 || m.Send(letter(1, "a")) != api.ErrNil || m.Drop(0) != api.ErrNone || m.Twice(0) != api.ErrNone {
		t.Error("nil Mail")
	}
	if x, e := m.Take(0); e != api.ErrNone || x.Node != 0 || len(x.B) != 0 {
		t.Errorf("Take %+v %d", x, e)
	}
}
