package script_test

import (
	"math"
	"slices"
	"strings"
	"testing"

	"alidade/api"
	"alidade/script"
)

func want(r api.Request) api.Act { return api.Act{Kind: api.ActWant, ID: 3, Request: r} }

func change(kind int) api.Request {
	return api.Request{Kind: api.WantChange, Change: api.Change{Kind: kind, Point: api.Point{ID: 1, X: 2, Y: -3}, Span: api.Span{ID: 4, Lo: -5, Hi: 6}}}
}

func query(kind int) api.Request {
	return api.Request{Kind: api.WantQuery, Query: api.Query{Kind: kind, Box: api.Box{X1: 1, X2: -2, Y1: 3, Y2: 4}, Win: api.Win{X1: 5, X2: 6, Y: -7}, X: 8, Hi: -9}}
}

type pair struct {
	a api.Act
	s string
}

func pairs() []pair {
	return []pair{
		{want(change(1)), "want 3 add-point 1 2 -3"}, {want(change(2)), "want 3 drop-point 1"}, {want(change(3)), "want 3 add-span 4 -5 6"}, {want(change(4)), "want 3 drop-span 4"},
		{want(query(1)), "want 3 box 1 -2 3 4"}, {want(query(2)), "want 3 count 1 -2 3 4"}, {want(query(3)), "want 3 win 5 6 -7"}, {want(query(4)), "want 3 win-count 5 6 -7"}, {want(query(5)), "want 3 stab 8"}, {want(query(6)), "want 3 overlap 8 -9"}, {want(query(7)), "want 3 overlap-count 8 -9"},
		{api.Act{Kind: api.ActStep, ID: 0, N: 1}, "step 0 1"}, {api.Act{Kind: api.ActStep, ID: -7, N: 10000}, "step -7 10000"}, {api.Act{Kind: api.ActAbort, ID: math.MaxInt}, "abort 9223372036854775807"}, {api.Act{Kind: api.ActAbort, ID: math.MinInt}, "abort -9223372036854775808"},
		{api.Act{Kind: api.ActClean, N: 12}, "clean 12"}, {api.Act{Kind: api.ActSend, ID: 2}, "send 2 -"}, {api.Act{Kind: api.ActSend, ID: 2, Bytes: []byte{0, 255, 0x1a, 9}}, "send 2 00ff1a09"}, {api.Act{Kind: api.ActSend, ID: 0, Bytes: make([]byte, 1000)}, "send 0 " + strings.Repeat("00", 1000)},
		{want(api.Request{Kind: 1, Change: api.Change{Kind: 1, Point: api.Point{ID: math.MinInt, X: math.MaxInt, Y: 0}}}), "want 3 add-point -9223372036854775808 9223372036854775807 0"},
	}
}

func bad() []api.Act {
	return []api.Act{
		{}, {Kind: -1, N: 1}, {Kind: 6, N: 1, Request: change(1)}, want(api.Request{}), want(change(5)), want(query(0)), want(query(8)), {Kind: api.ActStep}, {Kind: api.ActStep, N: -1}, {Kind: api.ActStep, N: 10001}, {Kind: api.ActClean}, {Kind: api.ActClean, N: 10001}, {Kind: api.ActClean, N: math.MinInt}, {Kind: api.ActSend, Bytes: make([]byte, 1001)},
	}
}

// stuffed is a with junk in what plays no part.
func stuffed(a api.Act) api.Act {
	b := api.Act{Kind: a.Kind, ID: 77, N: 78, Request: query(5), Bytes: []byte{7}}
	switch a.Kind {
	case api.ActWant:
		b.ID, b.Request = a.ID, a.Request
		b.Request.Query.X += 1000 * (2 - a.Request.Kind)
	case api.ActStep:
		b.ID, b.N = a.ID, a.N
	case api.ActAbort:
		b.ID = a.ID
	case api.ActClean:
		b.N = a.N
	case api.ActSend:
		b.ID, b.Bytes = a.ID, a.Bytes
	}
	return b
}

func TestShowAndParse(t *testing.T) {
	for _, p := range pairs() {
		for _, a := range []api.Act{p.a, stuffed(p.a)} {
			if s, e := script.Show(a); s != p.s || e != api.OK || !script.Good(a) {
				t.Error(p.s, s, e)
			}
			if !script.Same(a, p.a) {
				t.Error("Same", p.s)
			}
		}
		a, e := script.Parse(p.s)
		if e != api.OK || !script.Same(a, p.a) {
			t.Error(p.s, a, e)
		}
		if a.Kind != api.ActWant && a.Request != (api.Request{}) || a.Kind != api.ActSend && len(a.Bytes) != 0 || a.Kind != api.ActStep && a.Kind != api.ActClean && a.N != 0 || a.Kind == api.ActClean && a.ID != 0 {
			t.Error("what plays no part", a)
		}
	}
	if a, _ := script.Parse("want 3 drop-point 1"); a.Request != (api.Request{Kind: 1, Change: api.Change{Kind: 2, Point: api.Point{ID: 1}}}) {
		t.Error(a)
	}
	for _, a := range bad() {
		if s, e := script.Show(a); s != "" || e != api.ErrForm || script.Good(a) {
			t.Error(a.Kind, a.N, s, e)
		}
	}
}

func TestSame(t *testing.T) {
	l := pairs()
	for i, p := range l {
		for j, q := range l {
			if script.Same(p.a, q.a) != (i == j) || script.Same(stuffed(p.a), q.a) != (i == j) {
				t.Error(p.s, q.s)
			}
		}
		for _, b := range bad()[:3] {
			if script.Same(p.a, b) || script.Same(b, p.a) {
				t.Error(p.s, b)
			}
		}
	}
	for _, a := range bad()[:3] {
		for _, b := range bad()[:3] {
			if !script.Same(a, b) {
				t.Error("kinds that are none are the same", a, b)
			}
		}
	}
	if script.Same(api.Act{Kind: api.ActStep, N: 0}, api.Act{Kind: api.ActStep, N: -1}) || !script.Same(want(api.Request{}), want(change(9))) || script.Same(want(change(1)), want(api.Request{})) {
		t.Error("Same of what is not good")
	}
}

func TestLinesThatAreNone(t *testing.T) {
	for _, s := range []string{"", " ", "want", "want 3", "want 3 ", "want 3 add-point", "want 3 add-point 1 2", "want 3 add-point 1 2 3 4", "want 3 add-point 1 2 -03", "want 3 add-point 1 2 03", "want 3 add-point 1 2 -0", "want 3 add-point 1 2 +3", "want 3 add-point 1 2 3 ", " want 3 add-point 1 2 3", "want  3 add-point 1 2 3", "want 3  add-point 1 2 3",
		"want 03 stab 8", "want x stab 8", "want - stab 8", "want 3 Stab 8", "want 3 stabs 8", "want 3 stab 8 9", "want 3 stab", "want 3 stab 9223372036854775808", "want 3 stab -9223372036854775809", "want 3 stab 1_0", "want 3 stab 0x1", "want 3 stab 1\n", "want 3 overlap 1", "want 3 drop-span", "want 3 box 1 2 3", "Want 3 stab 8", "want\t3 stab 8",
		"step 0", "step 0 0", "step 0 -1", "step 0 10001", "step 0 1 1", "step 0 01", "step", "step  0 1", "step 0 1\r", "abort", "abort 1 2", "abort x", "abort ", "clean", "clean 0", "clean 1 2", "clean 10001", "clean +1", "send 0", "send 0 ", "send 0 0", "send 0 0g", "send 0 AA", "send 0 00 00", "send 0 --", "send 0 -00", "send 0 " + strings.Repeat("00", 1001), "stop 0", "step 0 1 "} {
		if a, e := script.Parse(s); e != api.ErrForm || a.Kind != 0 || a.ID != 0 || a.N != 0 || a.Request != (api.Request{}) || len(a.Bytes) != 0 {
			t.Errorf("%q: %v %v", s, a, e)
		}
	}
}

func TestHex(t *testing.T) {
	if script.Hex(nil) != "-" || script.Hex([]byte{}) != "-" || script.Hex([]byte{0, 1, 0x9a, 0xff}) != "00019aff" {
		t.Error("Hex")
	}
	for c := range 256 {
		a, e := script.Parse("send 1 " + script.Hex([]byte{byte(c)}))
		if e != api.OK || len(a.Bytes) != 1 || a.Bytes[0] != byte(c) {
			t.Error(c, a, e)
		}
	}
}

func TestPrintAndRead(t *testing.T) {
	var l []api.Act
	text := ""
	for _, p := range pairs() {
		l, text = append(l, stuffed(p.a)), text+p.s+"\n"
	}
	if s, n, e := script.Print(l); s != text || n != 0 || e != api.OK {
		t.Error(s, n, e)
	}
	if got, n, e := script.Read(text); !slices.EqualFunc(got, l, script.Same) || n != 0 || e != api.OK {
		t.Error(n, e)
	}
	if s, n, e := script.Print(nil); s != "" || n != 0 || e != api.OK {
		t.Error("nothing", s, n, e)
	}
	if got, n, e := script.Read(""); len(got) != 0 || n != 0 || e != api.OK {
		t.Error("nothing", n, e)
	}
	for i := range l {
		for _, b := range bad() {
			m := slices.Clone(l)
			m[i] = b
			m = append(m, b)
			if s, n, e := script.Print(m); s != "" || n != i+1 || e != api.ErrForm {
				t.Error(i, n, e)
			}
		}
	}
	for _, c := range []struct {
		s string
		n int
	}{{"\n", 1}, {"step 0 1", 1}, {"step 0 1\nstep 0 1", 2}, {"step 0 1\n\nstep 0 1\n", 2}, {"step 0 1\nstep 0 0\nx\n", 2}, {"step 0 1\r\n", 1}, {"step 0 1\n\n", 2}, {"step 0 1\nx", 2}, {"x\nstep 0 1", 1}} {
		if got, n, e := script.Read(c.s); len(got) != 0 || n != c.n || e != api.ErrForm {
			t.Errorf("%q: %d %v", c.s, n, e)
		}
	}
}

func TestLimits(t *testing.T) {
	many := slices.Repeat([]api.Act{{Kind: api.ActStep, N: 1}}, api.MaxActs)
	s, n, e := script.Print(many)
	if len(s) != 9*api.MaxActs || n != 0 || e != api.OK {
		t.Error("just as many", n, e)
	}
	if l, n, e := script.Read(s); len(l) != api.MaxActs || n != 0 || e != api.OK {
		t.Error("just as many", n, e)
	}
	if s, n, e := script.Print(append(many, api.Act{})); s != "" || n != 0 || e != api.ErrLong {
		t.Error("too many", n, e)
	}
	if l, n, e := script.Read(s + "\n"); len(l) != 0 || n != 0 || e != api.ErrLong {
		t.Error("too many", n, e)
	}
	if l, n, e := script.Read(s + "x"); len(l) != 0 || n != api.MaxActs+1 || e != api.ErrForm {
		t.Error("no more line feeds", n, e)
	}
	line := "send 0 " + strings.Repeat("00", 1000) + "\n"
	long := strings.Repeat(line, api.MaxScript/len(line))
	long += strings.Repeat("x", api.MaxScript-len(long))
	if l, n, e := script.Read(long); len(l) != 0 || n != api.MaxScript/len(line)+1 || e != api.ErrForm {
		t.Error("just as long", n, e)
	}
	if l, n, e := script.Read(long + "x"); len(l) != 0 || n != 0 || e != api.ErrLong {
		t.Error("too long", n, e)
	}
}

func TestNothingIsKept(t *testing.T) {
	b := []byte{1, 2}
	a := api.Act{Kind: api.ActSend, Bytes: b}
	s, _ := script.Show(a)
	b[0] = 9
	if s != "send 0 0102" {
		t.Error(s)
	}
}
