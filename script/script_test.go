package script_test

import (
	"math/rand"
	"strings"
	"testing"

	"counterfoil/addr"
	"counterfoil/api"
	"counterfoil/config"
	"counterfoil/fleet"
	"counterfoil/script"
)

var (
	a4 = addr.V4(10, 0, 2, 1)
	a6 = addr.V6(0x20010db800000000, 1)
)

const text6 = "2001:db8:0:0:0:0:0:1"

// lines are all kinds of lines with their steps, and the greatest numbers.
var lines = map[string]fleet.Step{
	"issue backend 1 10.0.2.1":                {Op: config.Op{Kind: config.AddBackend, Backend: 1, Addr: a4}},
	"issue backend 255 " + text6:              {Op: config.Op{Kind: config.AddBackend, Backend: 255, Addr: a6}},
	"issue vip 10.0.2.1 65535 tcp turns":      {Op: config.Op{Kind: config.AddVip, Addr: a4, Port: 65535, Proto: 6, Way: 1}},
	"issue vip " + text6 + " 443 udp weights": {Op: config.Op{Kind: config.AddVip, Addr: a6, Port: 443, Proto: 17, Way: 2}},
	"issue vip 10.0.2.1 0 tcp loads":          {Op: config.Op{Kind: config.AddVip, Addr: a4, Proto: 6, Way: 3}},
	"issue vip 10.0.2.1 80 udp draws":         {Op: config.Op{Kind: config.AddVip, Addr: a4, Port: 80, Proto: 17, Way: 4}},
	"issue members 0":                         {Op: config.Op{Kind: config.SetMembers}},
	"issue members 255 1:5 255:0 0:255":       {Op: config.Op{Kind: config.SetMembers, Vip: 255, Members: []config.Member{{Backend: 1, Weight: 5}, {Backend: 255}, {Weight: 255}}}},
	"issue retire 3 7":                        {Op: config.Op{Kind: config.Retire, Vip: 3, Version: 7}},
	"issue release 255 255":                   {Op: config.Op{Kind: config.Release, Vip: 255, Version: 255}},
	"issue evict 64":                          {Op: config.Op{Kind: config.Evict, Backend: 64}},
	"issue admit 0":                           {Op: config.Op{Kind: config.Admit}},
	"issue rotate":                            {Op: config.Op{Kind: config.Rotate}},
	"commit":                                  {Kind: fleet.Commit},
	"crash 1073741824 255":                    {Kind: fleet.Crash, Who: 1 << 30, Flags: 255},
	"crash 0 0":                               {Kind: fleet.Crash},
	"offer 3":                                 {Kind: fleet.Offer, Who: 3},
	"deliver 1073741824":                      {Kind: fleet.Deliver, Who: 1 << 30},
	"drop 0":                                  {Kind: fleet.Drop},
	"twice 12":                                {Kind: fleet.Twice, Who: 12},
	"restart 1":                               {Kind: fleet.Restart, Who: 1},
	"report 2 1073741824 1":                   {Kind: fleet.Report, Who: 2, N: 1 << 30, Flags: 1},
	"report 2 7 0":                            {Kind: fleet.Report, Who: 2, N: 7},
	"tick 1073741824":                         {Kind: fleet.Tick, N: 1 << 30},
	"settle 99":                               {Kind: script.Settle, N: 99},
	"settle 0":                                {Kind: script.Settle},
	"send 1 2 255 3 4 hello":                  {Kind: fleet.Send, Who: 1, At: 2, Flags: 255, X: 3, Y: 4, Load: []byte("hello")},
	"send 1 1073741824 2 1073741824 1073741824 a  b ": {Kind: fleet.Send, Who: 1, At: 1 << 30, Flags: 2, X: 1 << 30, Y: 1 << 30, Load: []byte("a  b ")},
	"send 0 0 0 0 0 ":                         {Kind: fleet.Send},
	"send 0 0 0 0 0  ":                        {Kind: fleet.Send, Load: []byte(" ")},
	"send 0 0 0 0 0 \xff\x00\t\r ünicode":     {Kind: fleet.Send, Load: []byte("\xff\x00\t\r ünicode")},
	"quic 5 6 some data":                      {Kind: fleet.Quic, Who: 5, At: 6, Load: []byte("some data")},
	"quic 5 1073741824 ":                      {Kind: fleet.Quic, Who: 5, At: 1 << 30},
	"reply 5 1073741824 18 0":                 {Kind: fleet.Reply, Who: 5, At: 1 << 30, Flags: 18, Load: []byte("0")},
	"reply 1 0 255 ":                          {Kind: fleet.Reply, Who: 1, Flags: 255},
	"give 1073741824 1073741824":              {Kind: fleet.Give, Who: 1 << 30, At: 1 << 30},
	"move 3 10.0.2.1 65535":                   {Kind: fleet.Move, Who: 3, Src: a4, Port: 65535},
	"move 0 " + text6 + " 0":                  {Kind: fleet.Move, Src: a6},
	"issue backend 0 0.0.0.0":                 {Op: config.Op{Kind: config.AddBackend}},
	"issue backend 7 0:0:0:0:0:0:0:0":         {Op: config.Op{Kind: config.AddBackend, Backend: 7, Addr: addr.V6(0, 0)}},
	"quic 1 2 settle 5 offer 03 # \"quoted\"": {Kind: fleet.Quic, Who: 1, At: 2, Load: []byte("settle 5 offer 03 # \"quoted\"")},
}

// P36.1, P36.2: each line and its step.
func TestLines(t *testing.T) {
	if script.Most != 1<<30 || script.Settle != 15 {
		t.Error("constants")
	}
	for s, want := range lines {
		if got, e := script.Parse(s); e != api.OK || !script.Same(got, want) {
			t.Errorf("Parse(%q) = %+v %d, want %+v", s, got, e, want)
		}
		if got := script.Write(want); got != s {
			t.Errorf("Write(%+v) = %q, want %q", want, got, s)
		}
	}
}

// P36.1: other strings are no lines.
func TestParseErrors(t *testing.T) {
	bad := []string{
		"", " ", "nothing", "offer", "offer 03", "offer -1", "offer 1 2", " offer 1", "offer  1", "offer 1 ", "Offer 1", "offer 1073741825", "offer x", "offer\t1", "offer 1\n", "\noffer 1", "offer 1\r",
		"issue", "issue ", "issue x", "issue backend", "issue backend 1", "issue backend 256 10.0.2.1", "issue backend 1 10.0.2", "issue backend 1 10.0.2.1 1", "issue backend 10.0.2.1 1", "issue backend 1 10.0.2.01", "issue backend 1 ::1",
		"issue vip 10.0.2.1 80 tcp", "issue vip 10.0.2.1 65536 tcp turns", "issue vip 10.0.2.1 80 icmp turns", "issue vip 10.0.2.1 80 TCP turns", "issue vip 10.0.2.1 80 tcp turn", "issue vip 10.0.2.1 80 tcp ", "issue vip 10.0.2.1 80  turns",
		"issue vip 10.0.2.1 80 6 turns", "issue vip 10.0.2.1 80 tcp 1", "issue vip 10.0.2.1 80 tcp turns x", "issue vip 80 tcp turns",
		"issue members", "issue members 256", "issue members 0 1", "issue members 0 1:", "issue members 0 :1", "issue members 0 1:2:3", "issue members 0 256:1", "issue members 0 1:256", "issue members 0 01:1", "issue members 0 1:01", "issue members 0 1:1 ", "issue members 0  1:1",
		"issue members 0 1:-1", "issue members 0 1;1", "issue members 1:1", "issue retire 1", "issue retire 1 2 3", "issue retire 256 1", "issue retire 1 256", "issue release 1", "issue release 256 0", "issue release 0 256",
		"issue evict", "issue evict 256", "issue evict 1 2", "issue admit 256", "issue admit", "issue rotate 1", "issue rotate ", "issue commit", "commit 1", "commit ",
		"crash", "crash 1", "crash 1 256", "crash 1073741825 1", "crash 1 2 3", "deliver", "deliver 1073741825", "drop x", "twice 1.0", "restart 00", "report 1 2", "report 1 2 2", "report 1 1073741825 1", "report 1 2 1 0", "report 1073741825 2 1",
		"tick", "tick 1073741825", "tick 1 2", "settle", "settle 100", "settle -1", "settle 1 1", "send 1 2 3 4 5", "send 1 2 256 4 5 x", "send 1073741825 2 3 4 5 x", "send 1 1073741825 3 4 5 x", "send 1 2 3 1073741825 5 x", "send 1 2 3 4 1073741825 x",
		"send 1 2 3 4 x y", "send 1 2 3 4 5 a\nb", "send 1 2 3 4 5 \n", "quic 1 2", "quic 1", "quic 1 1073741825 x", "quic 1073741825 1 x", "quic 1 2 a\n", "reply 1 2 3", "reply 1 2 256 x", "reply 1 1073741825 3 x", "reply 1073741825 1 3 x",
		"give", "give 1", "give 1 2 3", "give 1073741825 1", "give 1 1073741825", "give 1 2 ", "move 1", "move 1 10.0.2.1", "move 1 10.0.2.1 65536", "move 1 10.0.2.1 80 x", "move 1073741825 10.0.2.1 80", "move 1 x 80", "move 10.0.2.1 80", "# key 1",
		"settle 99999999999999999999", "issue members 0" + strings.Repeat(" 1:1", 65),
	}
	for _, s := range bad {
		if got, e := script.Parse(s); e != api.ErrForm || !script.Same(got, fleet.Step{}) {
			t.Errorf("Parse(%q) = %+v %d", s, got, e)
		}
	}
	s := "issue members 0" + strings.Repeat(" 1:1", 64)
	if got, e := script.Parse(s); e != api.OK || len(got.Op.Members) != 64 || script.Write(got) != s {
		t.Errorf("64 members: %d", e)
	}
}

// P36.1: the words of a flow.
func TestFlow(t *testing.T) {
	for s, want := range map[string]api.Flow{
		"10.0.2.1 5000 10.0.2.2 80 tcp":           {Src: a4, Dst: addr.V4(10, 0, 2, 2), SrcPort: 5000, DstPort: 80, Proto: 6},
		text6 + " 0 " + text6 + " 65535 udp":      {Src: a6, Dst: a6, DstPort: 65535, Proto: 17},
		"10.0.2.1 65535 " + text6 + " 1 udp":      {Src: a4, Dst: a6, SrcPort: 65535, DstPort: 1, Proto: 17},
		"0.0.0.0 0 255.255.255.255 0 tcp":         {Dst: addr.V4(255, 255, 255, 255), Proto: 6},
		"0:0:0:0:0:0:0:0 1 0:0:0:0:0:0:0:1 2 tcp": {Src: addr.V6(0, 0), Dst: addr.V6(0, 1), SrcPort: 1, DstPort: 2, Proto: 6},
	} {
		if got, e := script.Flow(s); e != api.OK || got != want {
			t.Errorf("Flow(%q) = %+v %d", s, got, e)
		}
	}
	for _, s := range []string{
		"", "10.0.2.1 5000 10.0.2.2 80", "10.0.2.1 5000 10.0.2.2 80 ", "10.0.2.1 5000 10.0.2.2 80 icmp", "10.0.2.1 5000 10.0.2.2 80 tcp ", "10.0.2.1 5000 10.0.2.2 80 tcp x", " 10.0.2.1 5000 10.0.2.2 80 tcp", "10.0.2.1 65536 10.0.2.2 80 tcp",
		"10.0.2.1 5000 10.0.2.2 65536 tcp", "10.0.2.1 05 10.0.2.2 80 tcp", "10.0.2 5000 10.0.2.2 80 tcp", "10.0.2.1 5000 10.0.2 80 tcp", "10.0.2.1 5000 10.0.2.2 80 tcp\n", "10.0.2.1  5000 10.0.2.2 80 tcp", "10.0.2.1 5000 80 tcp", "10.0.2.1 5000 10.0.2.2 80 6",
	} {
		if got, e := script.Flow(s); e != api.ErrForm || got != (api.Flow{}) {
			t.Errorf("Flow(%q) = %+v %d", s, got, e)
		}
	}
}

// changes are steps that differ from the zero one in one field each.
func changes() []fleet.Step {
	return []fleet.Step{
		{Kind: 1}, {Op: config.Op{Kind: 1}}, {Op: config.Op{Vip: 1}}, {Op: config.Op{Backend: 1}}, {Op: config.Op{Version: 1}}, {Op: config.Op{Addr: a4}}, {Op: config.Op{Port: 1}}, {Op: config.Op{Proto: 1}}, {Op: config.Op{Way: 1}},
		{Op: config.Op{Members: []config.Member{{}}}}, {Op: config.Op{Members: []config.Member{{Backend: 1}}}}, {Op: config.Op{Members: []config.Member{{Weight: 1}}}}, {Op: config.Op{Members: []config.Member{{}, {}}}},
		{Who: 1}, {At: 1}, {Flags: 1}, {Load: []byte{0}}, {Load: []byte{1}}, {Load: []byte{0, 0}}, {N: 1}, {X: 1}, {Y: 1}, {Src: a4}, {Src: addr.V6(0, 0)}, {Port: 1},
	}
}

// P36.2: Same compares all fields; nil and empty lists are alike.
func TestSame(t *testing.T) {
	l := append(changes(), fleet.Step{})
	for i, a := range l {
		for j, b := range l {
			if script.Same(a, b) != (i == j) {
				t.Errorf("Same(%+v, %+v)", a, b)
			}
		}
	}
	if !script.Same(fleet.Step{}, fleet.Step{Load: []byte{}, Op: config.Op{Members: []config.Member{}}}) {
		t.Error("nil and empty lists")
	}
}

// P36.2: a step with a field that its line does not mention, or a value out of bounds, has no line.
func TestWriteNone(t *testing.T) {
	for s, step := range lines {
		for i, c := range changes() {
			x := step
			switch {
			case i == 0:
				continue
			case i < 13:
				// Fields of the operation mean nothing to other kinds of steps.
				if step.Kind == fleet.Issue {
					continue
				}
				x.Op = c.Op
			default:
				x.Who, x.At, x.Flags, x.N, x.X, x.Y = x.Who+c.Who, x.At+c.At, x.Flags+c.Flags, x.N+c.N, x.X+c.X, x.Y+c.Y
				if len(c.Load) > 0 {
					x.Load = append([]byte("x"), c.Load...)
				}
				if c.Src != (api.Addr{}) {
					x.Src = c.Src
				}
				x.Port += c.Port
			}
			got := script.Write(x)
			if got == "" {
				continue
			}
			if back, e := script.Parse(got); e != api.OK || !script.Same(back, x) {
				t.Errorf("%q, change %d: Write(%+v) = %q", s, i, x, got)
			}
		}
	}
	for _, x := range []fleet.Step{
		{}, {Kind: -1}, {Kind: 16}, {Op: config.Op{Kind: 9}}, {Op: config.Op{Kind: -1}}, {Op: config.Op{Kind: config.Rotate, Vip: 1}}, {Op: config.Op{Kind: config.Rotate, Backend: 1}}, {Op: config.Op{Kind: config.Rotate}, Who: 1},
		{Op: config.Op{Kind: config.AddBackend, Backend: 256}}, {Op: config.Op{Kind: config.AddBackend, Backend: -1}}, {Op: config.Op{Kind: config.AddBackend, Addr: api.Addr{High: 1}}}, {Op: config.Op{Kind: config.AddBackend, Addr: api.Addr{Low: 1 << 32}}},
		{Op: config.Op{Kind: config.AddVip, Proto: 6}}, {Op: config.Op{Kind: config.AddVip, Way: 1}}, {Op: config.Op{Kind: config.AddVip, Proto: 1, Way: 1}}, {Op: config.Op{Kind: config.AddVip, Proto: 6, Way: 5}}, {Op: config.Op{Kind: config.AddVip, Proto: 6, Way: 1, Vip: 1}},
		{Op: config.Op{Kind: config.SetMembers, Vip: -1}}, {Op: config.Op{Kind: config.SetMembers, Members: make([]config.Member, 65)}}, {Op: config.Op{Kind: config.SetMembers, Members: []config.Member{{Backend: 256}}}}, {Op: config.Op{Kind: config.SetMembers, Members: []config.Member{{Weight: -1}}}},
		{Op: config.Op{Kind: config.Retire, Version: 256}}, {Op: config.Op{Kind: config.Retire, Backend: 1}}, {Op: config.Op{Kind: config.Release, Vip: 256}}, {Op: config.Op{Kind: config.Evict, Backend: 256}}, {Op: config.Op{Kind: config.Admit, Vip: 1}},
		{Kind: fleet.Commit, Who: 1}, {Kind: fleet.Commit, Op: config.Op{Kind: config.Rotate}}, {Kind: fleet.Crash, Who: 1<<30 + 1}, {Kind: fleet.Crash, Who: -1}, {Kind: fleet.Crash, At: 1}, {Kind: fleet.Offer, Flags: 1}, {Kind: fleet.Offer, Load: []byte("x")},
		{Kind: fleet.Report, Flags: 2}, {Kind: fleet.Report, N: 1<<30 + 1}, {Kind: fleet.Report, N: 1<<32 - 1}, {Kind: fleet.Tick, N: 1<<30 + 1}, {Kind: fleet.Tick, Who: 1}, {Kind: script.Settle, N: 100}, {Kind: script.Settle, Who: 1},
		{Kind: fleet.Send, Load: []byte("a\nb")}, {Kind: fleet.Send, Load: []byte("\n")}, {Kind: fleet.Send, X: 1<<30 + 1}, {Kind: fleet.Send, Y: 1<<30 + 1}, {Kind: fleet.Send, At: -1}, {Kind: fleet.Send, N: 1}, {Kind: fleet.Quic, Flags: 1}, {Kind: fleet.Quic, X: 1},
		{Kind: fleet.Reply, X: 1}, {Kind: fleet.Reply, Y: 1}, {Kind: fleet.Give, Load: []byte("x")}, {Kind: fleet.Give, Port: 1}, {Kind: fleet.Move, Src: api.Addr{High: 1}}, {Kind: fleet.Move, At: 1}, {Kind: fleet.Drop, Port: 1}, {Kind: fleet.Twice, Src: a6},
	} {
		if got := script.Write(x); got != "" {
			t.Errorf("Write(%+v) = %q", x, got)
		}
	}
}

// P36.3: Parse inverts Write, and Write inverts Parse.
func TestInverse(t *testing.T) {
	rnd := rand.New(rand.NewSource(1))
	var all []string
	for s := range lines {
		all = append(all, s)
	}
	written := 0
	for range 5000 {
		words := strings.Split(all[rnd.Intn(len(all))], " ")
		switch i := rnd.Intn(len(words)); rnd.Intn(4) {
		case 0:
			words[i] = strings.Split(all[rnd.Intn(len(all))], " ")[0]
		case 1:
			words[i] = addr.Decimal(rnd.Intn(300))
		case 2:
			words = append(words, addr.Decimal(rnd.Intn(3)))
		}
		s := strings.Join(words, " ")
		step, e := script.Parse(s)
		if e != api.OK {
			continue
		}
		written++
		if got := script.Write(step); got != s {
			t.Fatalf("Write(%+v) = %q, want %q", step, got, s)
		}
	}
	if written < 500 {
		t.Errorf("only %d lines", written)
	}
	for range 5000 {
		x := fleet.Step{Kind: rnd.Intn(17), Who: rnd.Intn(3), At: rnd.Intn(2), Flags: uint8(rnd.Intn(3)), N: uint32(rnd.Intn(2)), X: uint32(rnd.Intn(2)), Y: uint32(rnd.Intn(2)), Port: uint16(rnd.Intn(2))}
		if rnd.Intn(2) == 0 {
			x.Load = []byte(strings.Repeat("a ", rnd.Intn(3)))
		}
		if s := script.Write(x); s != "" {
			if got, e := script.Parse(s); e != api.OK || !script.Same(got, x) {
				t.Fatalf("Parse(%q) = %+v %d, want %+v", s, got, e, x)
			}
		}
	}
}

// Memory: a step shares nothing with another one, and Write changes nothing.
func TestMemory(t *testing.T) {
	x, _ := script.Parse("issue members 0 1:5 2:7")
	y := x
	y.Op.Members = append([]config.Member{}, x.Op.Members...)
	script.Write(x)
	if !script.Same(x, y) {
		t.Error("Write changed its argument")
	}
}
