package digest_test

import (
	"bytes"
	"hash/fnv"
	"math"
	"slices"
	"testing"

	"alidade/api"
	"alidade/catalog"
	"alidade/codec"
	"alidade/digest"
)

const far = api.MaxCoord

func pt(id, x, y int) api.Point { return api.Point{ID: id, X: x, Y: y} }

func sp(id, lo, hi int) api.Span { return api.Span{ID: id, Lo: lo, Hi: hi} }

type dice struct{ n uint32 }

func (d *dice) roll(most int) int {
	d.n = d.n*1664525 + 1013904223
	return int(d.n>>12) % most
}

func ints(l ...int) []byte {
	var b []byte
	for _, n := range l {
		b = codec.Int(b, n)
	}
	return b
}

func TestWriteAndRead(t *testing.T) {
	for _, c := range []struct {
		p []api.Point
		s []api.Span
		b []byte
	}{
		{nil, nil, []byte{0, 0}}, {[]api.Point{pt(3, 1, -1)}, nil, []byte{2, 6, 2, 1, 0}}, {nil, []api.Span{sp(3, -1, 4)}, []byte{0, 2, 6, 1, 10}},
		{[]api.Point{pt(1, 0, 0), pt(3, 5, 5), pt(api.MaxID, far, -far)}, []api.Span{sp(1, -far, far), sp(2, 7, 7), sp(api.MaxID, far, far)}, ints(3, 1, 0, 0, 2, 5, 5, api.MaxID-3, far, -far, 3, 1, -far, 2*far, 1, 7, 0, api.MaxID-2, far, 0)},
	} {
		b, e := digest.Write(c.p, c.s)
		if !bytes.Equal(b, c.b) || e != api.OK {
			t.Error(c.p, c.s, b, e)
		}
		p, s, e := digest.Read(c.b)
		if !slices.Equal(p, c.p) || !slices.Equal(s, c.s) || e != api.OK {
			t.Error(c.b, p, s, e)
		}
		for i := range c.b {
			if p, s, e := digest.Read(c.b[:i]); len(p)+len(s) != 0 || e != api.ErrForm {
				t.Error("cut", c.b[:i], p, s, e)
			}
		}
		if p, s, e := digest.Read(append(bytes.Clone(c.b), 0)); len(p)+len(s) != 0 || e != api.ErrForm {
			t.Error("something else behind", c.b, e)
		}
	}
}

func TestWhatIsNotWell(t *testing.T) {
	for i, c := range []struct {
		p []api.Point
		s []api.Span
	}{
		{[]api.Point{pt(0, 0, 0)}, nil}, {[]api.Point{pt(api.MaxID+1, 0, 0)}, nil}, {[]api.Point{pt(2, 0, 0), pt(1, 0, 0)}, nil}, {[]api.Point{pt(2, 0, 0), pt(2, 1, 0)}, nil}, {[]api.Point{pt(2, far+1, 0)}, nil}, {[]api.Point{pt(2, 0, -far-1)}, nil},
		{nil, []api.Span{sp(0, 0, 0)}}, {nil, []api.Span{sp(api.MaxID+1, 0, 0)}}, {nil, []api.Span{sp(2, 0, 0), sp(1, 0, 0)}}, {nil, []api.Span{sp(2, 0, 0), sp(2, 0, 1)}}, {nil, []api.Span{sp(2, 1, 0)}}, {nil, []api.Span{sp(2, 0, far+1)}}, {nil, []api.Span{sp(2, math.MaxInt, math.MinInt)}},
		{[]api.Point{pt(1, 0, 0)}, []api.Span{sp(2, 1, 0)}},
	} {
		if b, e := digest.Write(c.p, c.s); len(b) != 0 || e != api.ErrForm {
			t.Error(i, b, e)
		}
	}
	for i, b := range [][]byte{
		nil, {0}, {0x80, 0, 0}, ints(-1, 0), ints(0, -1), ints(1, 0, 0, 0, 0), ints(1, -1, 0, 0, 0), ints(2, 2, 0, 0, 0, 1, 1, 0), ints(2, 2, 0, 0, -1, 1, 1, 0), ints(1, 1, far+1, 0, 0), ints(1, 1, 0, -far-1, 0), ints(1, api.MaxID+1, 0, 0, 0), ints(2, 1, 0, 0, api.MaxID, 0, 0, 0), ints(2, 1, 0, 0, math.MaxInt, 0, 0, 0),
		ints(0, 1, 1, 5, -1), ints(0, 1, 0, 5, 1), ints(0, 1, 1, 5, far), ints(0, 1, 1, far, 1), ints(0, 1, 1, 5, math.MaxInt), ints(0, 1, 1, math.MaxInt, 0), ints(0, 2, 1, 5, 1, 0, 5, 1), ints(api.MaxPool+1, 1, 1, 1, 0), ints(math.MaxInt, 1, 1, 1, 0), ints(math.MinInt, 0), ints(1, 1, 1, 1), ints(0, math.MaxInt),
	} {
		if p, s, e := digest.Read(b); len(p)+len(s) != 0 || e != api.ErrForm {
			t.Error(i, p, s, e)
		}
		if c, e := digest.Load(b, 0); c != nil || e != api.ErrForm {
			t.Error("Load", i, e)
		}
	}
}

func TestLimits(t *testing.T) {
	p, s := make([]api.Point, api.MaxPool), []api.Span{sp(1, 0, 0)}
	for i := range p {
		p[i].ID = i + 1
	}
	b, e := digest.Write(p, nil)
	if e != api.OK || len(b) != 3+2+3*api.MaxPool-1 && len(b) < 3*api.MaxPool {
		t.Error("just as many", len(b), e)
	}
	if q, _, e := digest.Read(b); !slices.Equal(q, p) || e != api.OK {
		t.Error("just as many", e)
	}
	if b, e := digest.Write(p, s); len(b) != 0 || e != api.ErrForm {
		t.Error("too many", e)
	}
	more := append(bytes.Clone(b[:len(b)-1]), ints(1, 1, 0, 0)...)
	if q, u, e := digest.Read(more); len(q)+len(u) != 0 || e != api.ErrForm {
		t.Error("too many", e)
	}
	if c, e := digest.Load(b, 5); c != nil || e != api.ErrFull {
		t.Error("more than most", e)
	}
	if q, u, e := digest.Read(make([]byte, 1<<26+1)); len(q)+len(u) != 0 || e != api.ErrLong {
		t.Error("too long", e)
	}
	if q, u, e := digest.Read(make([]byte, 1<<26)); len(q)+len(u) != 0 || e != api.ErrForm {
		t.Error("just as long", e)
	}
	if c, e := digest.Load(make([]byte, 1<<26+1), 0); c != nil || e != api.ErrLong {
		t.Error("too long", e)
	}
}

// some is points and intervals that are well.
func some(d *dice, n int) ([]api.Point, []api.Span) {
	var p []api.Point
	var s []api.Span
	id := 0
	for range n {
		id += 1 + d.roll(3)
		if lo := d.roll(40) - 20; d.roll(2) == 0 {
			p = append(p, pt(id, lo, d.roll(40)-20))
		} else {
			s = append(s, sp(id, lo, lo+d.roll(9)))
		}
	}
	return p, s
}

func TestOfAndLoad(t *testing.T) {
	d := &dice{6}
	for n := range 30 {
		p, s := some(d, n)
		b, e := digest.Write(p, s)
		if e != api.OK {
			t.Fatal(e)
		}
		c, e := digest.Load(b, max(n, 1))
		if c == nil || e != api.OK || c.Version() != n || c.Len() != n || !slices.Equal(c.Points(), p) || !slices.Equal(c.Spans(), s) || !c.Agree() {
			t.Fatal("Load", n, e)
		}
		back, ok := digest.Of(c)
		if !bytes.Equal(back, b) || !ok {
			t.Fatal("Of", n, ok)
		}
		if n > 0 && c.May(api.Change{Kind: api.AddPoint, Point: pt(api.MaxID, 0, 0)}) != api.ErrFull {
			t.Fatal("most")
		}
		if n > 1 {
			if c, e := digest.Load(b, n-1); c != nil || e != api.ErrFull {
				t.Fatal("more than most", n, e)
			}
		}
		for _, most := range []int{0, -1, api.MaxPool + 1} {
			if c, e := digest.Load(b, most); c != nil || e != api.ErrArg {
				t.Fatal(most, e)
			}
		}
	}
	c, _ := catalog.New(5)
	c.Begin(api.Change{Kind: api.AddPoint, Point: pt(1, 0, 0)})
	if b, ok := digest.Of(c); len(b) != 0 || ok {
		t.Error("under way")
	}
	c.Step(3)
	if b, ok := digest.Of(c); len(b) != 0 || ok {
		t.Error("under way")
	}
	c.Step(1)
	if b, ok := digest.Of(c); !bytes.Equal(b, []byte{2, 2, 0, 0, 0}) || !ok {
		t.Error(b, ok)
	}
	if b, ok := digest.Of(nil); len(b) != 0 || ok {
		t.Error("nil")
	}
}

func TestWhateverBytes(t *testing.T) {
	d := &dice{9}
	fine := 0
	for range 100000 {
		b := make([]byte, 2+d.roll(12))
		for i := range b {
			b[i] = byte(d.roll([]int{4, 8, 256}[d.roll(3)]))
		}
		p, s, e := digest.Read(b)
		if e != api.OK {
			continue
		}
		fine++
		if back, e := digest.Write(p, s); !bytes.Equal(back, b) || e != api.OK {
			t.Fatal(b, back, e)
		}
	}
	if fine < 100 {
		t.Error("too few", fine)
	}
}

func TestSum(t *testing.T) {
	if digest.Sum(nil) != 0xcbf29ce484222325 || digest.Sum([]byte("a")) != 0xaf63dc4c8601ec8c {
		t.Error("Sum")
	}
	d := &dice{2}
	for n := range 60 {
		b := make([]byte, n)
		for i := range b {
			b[i] = byte(d.roll(256))
		}
		h := fnv.New64a()
		h.Write(b)
		if digest.Sum(b) != h.Sum64() {
			t.Error(b)
		}
	}
}

func TestText(t *testing.T) {
	if s := digest.Text([]api.Point{pt(3, 1, -1), pt(1, 0, 7)}, []api.Span{sp(9, -5, 4), sp(-2, 8, 7)}); s != "p 3 1 -1\np 1 0 7\ni 9 -5 4\ni -2 8 7\n" {
		t.Error(s)
	}
	if digest.Text(nil, nil) != "" {
		t.Error("nothing")
	}
}
