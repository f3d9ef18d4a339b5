package frame_test

import (
	"bytes"
	"slices"
	"testing"

	"alidade/api"
	"alidade/frame"
)

func made(t *testing.T, most int) *frame.Stream {
	t.Helper()
	s, e := frame.New(most)
	if s == nil || e != api.OK {
		t.Fatal(most, e)
	}
	return s
}

func equal(a, b [][]byte) bool { return slices.EqualFunc(a, b, bytes.Equal) }

func list(l ...string) (b [][]byte) {
	for _, s := range l {
		b = append(b, []byte(s))
	}
	return b
}

func TestWrap(t *testing.T) {
	for _, c := range []struct {
		l []string
		w string
	}{{nil, ""}, {[]string{"ab"}, "\x00\x02ab"}, {[]string{""}, "\x00\x00"}, {[]string{"a", "", "bcd"}, "\x00\x01a\x00\x00\x00\x03bcd"}} {
		if b, e := frame.Wrap(list(c.l...)...); string(b) != c.w || e != api.OK {
			t.Error(c.l, b, e)
		}
	}
	long := make([]byte, 70000)
	for _, c := range []struct {
		n []int
		e api.Errno
	}{
		{[]int{300}, api.OK}, {[]int{65534}, api.OK}, {[]int{65535}, api.ErrLong}, {[]int{65536}, api.ErrLong}, {[]int{32766, 32766}, api.OK}, {[]int{32766, 32767}, api.ErrLong}, {[]int{1, 70000}, api.ErrLong}, {[]int{0, 65532}, api.OK}, {[]int{0, 65533}, api.ErrLong}, {slices.Repeat([]int{0}, 32768), api.OK}, {slices.Repeat([]int{0}, 32769), api.ErrLong},
	} {
		var l [][]byte
		total := 0
		for _, n := range c.n {
			l, total = append(l, long[:n]), total+n+2
		}
		b, e := frame.Wrap(l...)
		if e != c.e || e == api.OK && len(b) != total || e != api.OK && len(b) != 0 {
			t.Error(len(c.n), c.n[0], len(b), e)
		}
		if e == api.OK && (int(b[0])<<8|int(b[1])) != c.n[0] {
			t.Error("head", b[:2])
		}
	}
}

func TestFeed(t *testing.T) {
	for _, most := range []int{0, -1, 65536, 1 << 62} {
		if s, e := frame.New(most); s != nil || e != api.ErrArg {
			t.Error(most, e)
		}
	}
	made(t, 65535)
	if l, e := made(t, 1).Feed([]byte("\x00\x01a\x00\x02")); !equal(l, list("a")) || e != api.ErrLong {
		t.Error("frames of one byte", l, e)
	}
	s := made(t, 3)
	if l, e := s.Feed([]byte("\x00\x02ab\x00\x00\x00\x03cde\x00")); !equal(l, list("ab", "", "cde")) || e != api.OK || s.Waits() != 1 || s.Broken() {
		t.Error(l, e, s.Waits())
	}
	if l, e := s.Feed(nil); len(l) != 0 || e != api.OK || s.Waits() != 1 {
		t.Error(l, e)
	}
	if l, e := s.Feed([]byte("\x03f")); len(l) != 0 || e != api.OK || s.Waits() != 3 {
		t.Error(l, e, s.Waits())
	}
	if l, e := s.Feed([]byte("gh\x00\x01i\x00\x04")); !equal(l, list("fgh", "i")) || e != api.ErrLong || !s.Broken() || s.Waits() != 0 {
		t.Error(l, e, s.Waits())
	}
	if l, e := s.Feed([]byte("\x00\x01a")); len(l) != 0 || e != api.ErrState || !s.Broken() {
		t.Error(l, e)
	}
	if l, e := s.Feed(make([]byte, api.MaxFrame+1)); len(l) != 0 || e != api.ErrArg {
		t.Error("ErrArg comes first", e)
	}
	s.Reset()
	if s.Broken() || s.Waits() != 0 {
		t.Error("Reset")
	}
	if l, e := s.Feed([]byte("\x00\x01a\x00")); !equal(l, list("a")) || e != api.OK || s.Waits() != 1 {
		t.Error(l, e)
	}
	s.Reset()
	if l, e := s.Feed([]byte("\x00\x01b")); !equal(l, list("b")) || e != api.OK {
		t.Error(l, e)
	}
	if l, e := s.Feed(make([]byte, api.MaxFrame+1)); len(l) != 0 || e != api.ErrArg || s.Waits() != 0 || s.Broken() {
		t.Error("too many bytes", e)
	}
	if l, e := s.Feed(make([]byte, api.MaxFrame)); len(l) != api.MaxFrame/2 || e != api.OK {
		t.Error("just as many bytes", len(l), e)
	}
}

func TestALongFrame(t *testing.T) {
	body := bytes.Repeat([]byte("x"), 65535)
	all := append([]byte{0xff, 0xff}, body...)
	s := made(t, 65535)
	if l, e := s.Feed(all[:65536]); len(l) != 0 || e != api.OK || s.Waits() != 65536 {
		t.Error(len(l), e)
	}
	if l, e := s.Feed(all[65536:]); len(l) != 1 || !bytes.Equal(l[0], body) || e != api.OK || s.Waits() != 0 {
		t.Error(len(l), e)
	}
	s = made(t, 65534)
	if l, e := s.Feed(all[:2]); len(l) != 0 || e != api.ErrLong {
		t.Error(len(l), e)
	}
}

func TestInWhateverPieces(t *testing.T) {
	texts := []string{"", "a", "bcd", "", "efghijkl", "m", "nopqrstuvw"}
	all, _ := frame.Wrap(list(texts...)...)
	for part := 1; part <= len(all); part++ {
		s := made(t, 10)
		var got [][]byte
		for b := range slices.Chunk(all, part) {
			was := bytes.Clone(b)
			l, e := s.Feed(b)
			if e != api.OK || !bytes.Equal(b, was) {
				t.Fatal(e)
			}
			for i := range b {
				b[i] = 0xff
			}
			copy(b, was)
			got = append(got, l...)
		}
		if !equal(got, list(texts...)) || s.Waits() != 0 {
			t.Fatal(part, got)
		}
	}
	s := made(t, 10)
	half := bytes.Clone(all[:9])
	s.Feed(half)
	for i := range half {
		half[i] = 0xff
	}
	if l, e := s.Feed(all[9:]); e != api.OK || !bytes.Equal(l[len(l)-1], []byte("nopqrstuvw")) {
		t.Error("what was fed is kept", e)
	}
	s = made(t, 10)
	l, _ := s.Feed(all)
	for _, b := range l {
		_ = append(b, 'z', 'z')
		for i := range b {
			b[i] = 'z'
		}
	}
	if m, _ := frame.Wrap(list(texts...)...); !bytes.Equal(m, all) {
		t.Error("shared")
	}
}

func TestSplit(t *testing.T) {
	b := []byte("\x00\x02ab\x00\x00\x00\x03cde\x00")
	for _, c := range []struct {
		b    []byte
		most int
		l    [][]byte
		n    int
		e    api.Errno
	}{
		{b, 3, list("ab", "", "cde"), 11, api.OK}, {b, 2, list("ab", ""), 6, api.ErrLong}, {b, 1, nil, 0, api.ErrLong}, {b[:10], 3, list("ab", ""), 6, api.OK}, {b[:3], 3, nil, 0, api.OK}, {nil, 3, nil, 0, api.OK},
		{b, 0, nil, 0, api.ErrArg}, {b, 65536, nil, 0, api.ErrArg}, {make([]byte, api.MaxFrame+1), 5, nil, 0, api.ErrArg}, {b, 65535, list("ab", "", "cde"), 11, api.OK},
	} {
		l, n, e := frame.Split(c.b, c.most)
		if !equal(l, c.l) || n != c.n || e != c.e {
			t.Error(c.most, l, n, e)
		}
		for _, f := range l {
			for i := range f {
				f[i] = 'z'
			}
		}
	}
	if b[2] != 'a' {
		t.Error("shared")
	}
	if l, n, e := frame.Split(make([]byte, api.MaxFrame), 1); len(l) != api.MaxFrame/2 || n != api.MaxFrame || e != api.OK {
		t.Error("just as many bytes", len(l), n, e)
	}
}

func TestNil(t *testing.T) {
	var s *frame.Stream
	s.Reset()
	if l, e := s.Feed([]byte("x")); len(l) != 0 || e != api.ErrArg || s.Waits() != 0 || s.Broken() {
		t.Error("nil")
	}
}
