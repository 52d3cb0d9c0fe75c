package desk_test

import (
	"slices"
	"strings"
	"testing"

	"counterfoil/addr"
	"counterfoil/api"
	"counterfoil/desk"
	"counterfoil/fleet"
	"counterfoil/siphash"
)

var standard = fleet.Setting{Key: siphash.Of(0, 1), Replicas: 1, Backends: 1, Most: 1500, Conns: 16, Disk: 65536, Mail: 64}

func same(a, b desk.Script) bool {
	x, y := a.Set, b.Set
	return x.Key == y.Key && x.Replicas == y.Replicas && x.Backends == y.Backends && x.Most == y.Most && x.Conns == y.Conns && x.Disk == y.Disk && x.Mail == y.Mail &&
		slices.Equal(x.Flows, y.Flows) && slices.Equal(a.Lines, b.Lines)
}

// P37.1: lines end with a line feed, which the last one may lack.
func TestParseLines(t *testing.T) {
	for text, want := range map[string][]string{
		"": nil, "\n": {""}, "a": {"a"}, "a\n": {"a"}, "a\nb": {"a", "b"}, "a\nb\n": {"a", "b"}, "a\n\n": {"a", ""}, "\n\na": {"", "", "a"}, " a \n": {" a "}, "a\r\n": {"a\r"}, "#\n# key 7": {"#", "# key 7"}, "#x\n": {"#x"},
		"commit\n# key 7\n# nonsense": {"commit", "# key 7", "# nonsense"}, "\n# key 7": {"", "# key 7"}, "#key 7": {"#key 7"}, " # key 7": {" # key 7"},
	} {
		if got, n := desk.Parse(text); n != 0 || !same(got, desk.Script{Set: standard, Lines: want}) {
			t.Errorf("Parse(%q) = %+v %d", text, got, n)
		}
	}
}

// P37.1: settings, of which the later ones count, and flows, which add clients.
func TestParseSettings(t *testing.T) {
	text := "# key 77\n# replicas 2\n# backends 3\n# most 600\n# conns 4\n# disk 5\n# mail 6\n# flow 10.0.0.1 1 10.0.0.2 2 tcp\n# flow 0:0:0:0:0:0:0:1 3 0:0:0:0:0:0:0:2 4 udp\n"
	want := fleet.Setting{Key: siphash.Of(0, 77), Replicas: 2, Backends: 3, Most: 600, Conns: 4, Disk: 5, Mail: 6, Flows: []api.Flow{
		{Src: addr.V4(10, 0, 0, 1), Dst: addr.V4(10, 0, 0, 2), SrcPort: 1, DstPort: 2, Proto: 6}, {Src: addr.V6(0, 1), Dst: addr.V6(0, 2), SrcPort: 3, DstPort: 4, Proto: 17},
	}}
	if got, n := desk.Parse(text); n != 0 || !same(got, desk.Script{Set: want}) {
		t.Errorf("Parse %+v %d", got, n)
	}
	if got, n := desk.Parse(text + "commit\n# key 5"); n != 0 || !same(got, desk.Script{Set: want, Lines: []string{"commit", "# key 5"}}) {
		t.Errorf("Parse %+v %d", got, n)
	}
	again := want
	again.Key, again.Mail = siphash.Of(0, 1<<30), 0
	if got, n := desk.Parse(text + "# key 1073741824\n# mail 9\n# mail 0"); n != 0 || !same(got, desk.Script{Set: again}) {
		t.Errorf("Parse %+v %d", got, n)
	}
	for i, name := range []string{"key", "replicas", "backends", "most", "conns", "disk", "mail"} {
		want := standard
		switch i {
		case 0:
			want.Key = siphash.Of(0, 9)
		case 1:
			want.Replicas = 9
		case 2:
			want.Backends = 9
		case 3:
			want.Most = 9
		case 4:
			want.Conns = 9
		case 5:
			want.Disk = 9
		case 6:
			want.Mail = 9
		}
		if got, n := desk.Parse("# " + name + " 9"); n != 0 || !same(got, desk.Script{Set: want}) {
			t.Errorf("%s: %+v %d", name, got, n)
		}
	}
}

// P37.1: the number of the first line that sets nothing.
func TestParseErrors(t *testing.T) {
	for _, line := range []string{
		"# ", "# key", "# key ", "# key x", "# key 01", "# key -1", "# key 1073741825", "# key 1 ", "# key 1 2", "#  key 1", "# Key 1", "# keys 1", "# replicas", "# most 1.5", "# nonsense 1", "# flow", "# flow ", "# flow 1",
		"# flow 10.0.0.1 1 10.0.0.2 2 icmp", "# flow 10.0.0.1 1 10.0.0.2 2", "# flow 10.0.0.1 1 10.0.0.2 2 tcp ", "# flows 10.0.0.1 1 10.0.0.2 2 tcp", "# key 1\r",
	} {
		for n, front := range []string{"", "# key 1\n", "# flow 10.0.0.1 1 10.0.0.2 2 tcp\n# mail 1\n"} {
			for _, back := range []string{"", "\n", "\ncommit\n", "\n# worse"} {
				text := front + line + back
				if got, bad := desk.Parse(text); bad != n+1 || !same(got, desk.Script{}) {
					t.Errorf("Parse(%q) = %+v %d", text, got, bad)
				}
				if got := desk.Run(text); got != "line "+addr.Decimal(n+1)+"\n" {
					t.Errorf("Run(%q) = %q", text, got)
				}
			}
		}
	}
}

// P37.2: the answers of a fleet that has done nothing.
func TestDo(t *testing.T) {
	x, _ := fleet.New(fleet.Setting{Replicas: 1, Backends: 1, Most: 1500, Conns: 1, Disk: 1000, Mail: 1, Flows: []api.Flow{{Src: addr.V4(10, 0, 0, 1), Dst: addr.V4(10, 0, 0, 2), SrcPort: 1, DstPort: 2, Proto: 6}}})
	for _, c := range [][2]string{
		{"", "error 21"}, {"nonsense", "error 21"}, {"# key 1", "error 21"}, {"offer 0", "error 6"}, {"offer 9", "error 1"}, {"settle 3", "ok"}, {"settle 100", "error 21"}, {"tick 5", "ok"}, {"send 0 0 2 0 0 x", "drop notable"}, {"send 1 0 2 0 0 x", "error 1"},
		{"quic 0 0 x", "error 1"}, {"reply 0 0 2 x", "error 6"}, {"give 0 0", "error 6"}, {"issue retire 0 0", "error 6"}, {"issue backend 1 10.0.2.1", "ok"}, {"commit", "ok"}, {"offer 0", "ok"}, {"offer 1", "error 23"}, {"deliver 0", "ok"}, {"deliver 0", "ok"},
		{"deliver 0", "error 6"}, {"crash 0 0", "ok"}, {"report 0 1 1", "ok"}, {"restart 0", "ok"}, {"move 0 10.0.0.9 5", "ok"}, {"drop 0", "error 6"}, {"twice 0", "error 6"},
	} {
		if got := desk.Do(x, c[0]); got != c[1] {
			t.Errorf("%q: %q, want %q", c[0], got, c[1])
		}
	}
	if x.Now() != 5 {
		t.Errorf("Now %d", x.Now())
	}
	for line, want := range map[string]string{"nonsense": "error 21", "settle 5": "ok", "offer 0": "error 3", "send 0 0 0 0 0 x": "error 3", "commit": "error 3"} {
		if got := desk.Do(nil, line); got != want {
			t.Errorf("nil fleet, %q: %q", line, got)
		}
	}
}

// story is a script and its answers, which follow a tab.
const story = `issue backend 1 10.0.2.1
	ok
issue backend 2 10.0.2.2
	ok
issue vip 192.0.2.1 80 tcp turns
	ok
issue vip 192.0.2.1 443 udp turns
	ok
issue members 0 1:1 2:1
	ok
issue members 1 1:1 2:1
	ok
send 0 0 2 0 0 
	drop notable
commit
	ok
offer 0
	ok
deliver 0
	ok
deliver 0
	ok
offer 0
	error 6
settle 1
	ok
send 0 0 2 0 0 hello
	to 1 fine 37
reply 0 0 18 welcome
	from 1 59
tick 5
	ok
send 0 1 16 0 0 data
	to 1 fine 36
send 0 1 2 0 0 again
	to 1 fine 37
quic 1 0 first
	to 1 fine 28
give 1 1
	from 2 12
quic 1 1 second
	to 2 fine 27
report 0 5 0
	ok
send 0 0 2 0 0 well
	to 2 fine 36
issue evict 1
	ok
commit
	ok
settle 1
	ok
send 0 0 16 0 0 more
	drop evicted
restart 0
	ok
send 0 0 16 0 0 more
	drop notable
crash 0 0
	ok
send 1 0 0 0 0 wrong
	error 1
nonsense
	error 21
move 1 198.51.100.9 5002
	ok
quic 1 1 third
	to 2 fine 26
`

const settings = "# replicas 2\n# backends 2\n# flow 198.51.100.7 5000 192.0.2.1 80 tcp\n# flow 198.51.100.8 5001 192.0.2.1 443 udp\n"

// P37.3: a whole script, each line with its answer.
func TestRun(t *testing.T) {
	text := settings
	for _, l := range strings.SplitAfter(story, "\n") {
		if !strings.HasPrefix(l, "\t") {
			text += l
		}
	}
	if got := desk.Run(text); got != story {
		t.Errorf("Run:\n%s", got)
	}
	if got := desk.Run(strings.TrimSuffix(text, "\n")); got != story {
		t.Errorf("Run without the last line feed:\n%s", got)
	}
}

// P37.3, example 1: short scripts, and settings that are no fleet's.
func TestRunShort(t *testing.T) {
	for text, want := range map[string]string{
		"": "", "offer 0": "offer 0\n\terror 6\n", "\n": "\n\terror 21\n", "tick 1\n\n": "tick 1\n\tok\n\n\terror 21\n", "# key 5\n": "", "# replicas 0": "error 1\n", "# backends 16\ncommit": "error 1\n", "# most 575": "error 1\n", "# most 576\ncommit": "commit\n\tok\n",
		"# conns 1025": "error 1\n", "# flow 10.0.0.1 1 0:0:0:0:0:0:0:2 2 tcp\n": "error 1\n", "# key x": "line 1\n", "# key 1\n# key\n": "line 2\n", "# disk 0\nissue rotate": "issue rotate\n\terror 23\n", "# mail 0\nsettle 2": "settle 2\n\tok\n",
		"# replicas 0\n# nonsense 5": "line 2\n",
	} {
		if got := desk.Run(text); got != want {
			t.Errorf("Run(%q) = %q, want %q", text, got, want)
		}
	}
}

// P37.2: answers to packets that are too big.
func TestRunAnswer(t *testing.T) {
	text := "# most 576\n# flow 10.0.0.1 1 10.0.0.2 2 tcp\nissue backend 1 10.0.2.1\nissue vip 10.0.0.2 2 tcp loads\nissue members 0 1:1\ncommit\nsettle 1\nsend 0 0 2 0 0 " + strings.Repeat("x", 505)
	got := desk.Run(text)
	if !strings.HasSuffix(got, "x\n\tanswer toobig\n") {
		t.Errorf("Run: %s", got[len(got)-40:])
	}
	if got := desk.Run(text[:len(text)-1]); !strings.HasSuffix(got, "x\n\tto 1 fine 536\n") {
		t.Errorf("Run: %s", got[len(got)-40:])
	}
}
