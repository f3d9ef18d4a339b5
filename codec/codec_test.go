package codec_test

import (
	"bytes"
	"math"
	"testing"

	"alidade/api"
	"alidade/codec"
)

func change(kind int) api.Request {
	return api.Request{Kind: api.WantChange, Change: api.Change{Kind: kind, Point: api.Point{ID: 5, X: 6, Y: -7}, Span: api.Span{ID: 8, Lo: -9, Hi: 10}}, Query: whole(3)}
}

func whole(kind int) api.Query {
	return api.Query{Kind: kind, Box: api.Box{X1: 1, X2: -2, Y1: 3, Y2: 4}, Win: api.Win{X1: 5, X2: 6, Y: -7}, X: 8, Hi: -9}
}

func query(kind int) api.Request {
	return api.Request{Kind: api.WantQuery, Change: change(1).Change, Query: whole(kind)}
}

// only is what Only should leave of the requests above.
func only(r api.Request) api.Request {
	w := api.Request{Kind: r.Kind}
	if r.Kind == api.WantChange {
		c := r.Change
		w.Change.Kind = c.Kind
		switch c.Kind {
		case 1:
			w.Change.Point = c.Point
		case 2:
			w.Change.Point.ID = c.Point.ID
		case 3:
			w.Change.Span = c.Span
		case 4:
			w.Change.Span.ID = c.Span.ID
		}
		return w
	}
	q := r.Query
	w.Query.Kind = q.Kind
	switch q.Kind {
	case 1, 2:
		w.Query.Box = q.Box
	case 3, 4:
		w.Query.Win = q.Win
	case 5:
		w.Query.X = q.X
	case 6, 7:
		w.Query.X, w.Query.Hi = q.X, q.Hi
	}
	return w
}

func all() []api.Request {
	var l []api.Request
	for kind := 1; kind <= 4; kind++ {
		l = append(l, change(kind))
	}
	for kind := 1; kind <= 7; kind++ {
		l = append(l, query(kind))
	}
	return l
}

func wrong() []api.Request {
	l := []api.Request{{}, {Kind: 3, Change: change(1).Change, Query: whole(1)}, {Kind: -1, Change: change(1).Change, Query: whole(1)}}
	for _, kind := range []int{0, -1, 5, 257, math.MaxInt, math.MinInt} {
		l = append(l, change(kind))
	}
	for _, kind := range []int{0, -1, 8, 257, -15, math.MaxInt, math.MinInt} {
		l = append(l, query(kind))
	}
	return l
}

func TestGoodAndOnly(t *testing.T) {
	for i, r := range all() {
		if !codec.Good(r) || codec.Only(r) != only(r) {
			t.Error(r, codec.Only(r))
		}
		for j, s := range all() {
			if codec.Same(r, s) != (i == j) || codec.Same(r, only(s)) != (i == j) {
				t.Error("Same", i, j)
			}
		}
		for _, s := range wrong() {
			if codec.Same(r, s) || codec.Same(s, r) {
				t.Error("Same", r, s)
			}
		}
	}
	for _, r := range wrong() {
		if codec.Good(r) || codec.Only(r) != (api.Request{}) || !codec.Same(r, wrong()[0]) {
			t.Error(r)
		}
		if b, e := codec.Encode(r); len(b) != 0 || e != api.ErrForm {
			t.Error(r, b, e)
		}
	}
	if !codec.Good(api.Request{Kind: 1, Change: api.Change{Kind: 1, Point: api.Point{ID: math.MinInt, X: math.MaxInt}}}) {
		t.Error("whatever numbers it has")
	}
	a, b := change(1), change(1)
	b.Change.Point.Y++
	if codec.Same(a, b) {
		t.Error("other numbers")
	}
}

func TestNumbers(t *testing.T) {
	for _, c := range []struct {
		n int
		b []byte
	}{
		{0, []byte{0}}, {-1, []byte{1}}, {1, []byte{2}}, {-2, []byte{3}}, {63, []byte{126}}, {-64, []byte{127}}, {64, []byte{0x80, 1}}, {-65, []byte{0x81, 1}}, {8191, []byte{0xfe, 0x7f}}, {8192, []byte{0x80, 0x80, 1}},
		{math.MaxInt, []byte{0xfe, 0xff, 0xff, 0xff, 0xff, 0xff, 0xff, 0xff, 0xff, 1}}, {math.MinInt, []byte{0xff, 0xff, 0xff, 0xff, 0xff, 0xff, 0xff, 0xff, 0xff, 1}},
	} {
		if b := codec.Int(nil, c.n); !bytes.Equal(b, c.b) {
			t.Error(c.n, b)
		}
		if b := codec.Int([]byte{7, 8}, c.n); !bytes.Equal(b, append([]byte{7, 8}, c.b...)) {
			t.Error(c.n, b)
		}
		for _, tail := range [][]byte{nil, {0}, {0xff, 0xff}, {1, 2, 3}} {
			if n, size := codec.Read(append(bytes.Clone(c.b), tail...)); n != c.n || size != len(c.b) {
				t.Error(c.n, n, size)
			}
		}
		for i := range c.b {
			if n, size := codec.Read(c.b[:i]); n != 0 || size != 0 {
				t.Error("cut", c.b[:i], n, size)
			}
		}
	}
	for _, b := range [][]byte{nil, {0x80}, {0x80, 0}, {0x81, 0}, {0xff, 0x80, 0}, {0xff, 0xff, 0xff, 0xff, 0xff, 0xff, 0xff, 0xff, 0xff, 2}, {0x80, 0x80, 0x80, 0x80, 0x80, 0x80, 0x80, 0x80, 0x80, 0},
		{0x80, 0x80, 0x80, 0x80, 0x80, 0x80, 0x80, 0x80, 0x80, 0x80, 1}, {0xff, 0xff, 0xff, 0xff, 0xff, 0xff, 0xff, 0xff, 0xff, 0x81, 0}, bytes.Repeat([]byte{0xff}, 40)} {
		if n, size := codec.Read(b); n != 0 || size != 0 {
			t.Error(b, n, size)
		}
	}
	room := make([]byte, 2, 20)
	codec.Int(room, -1)
	if room[:3][2] != 0 {
		t.Error("the spare room is changed")
	}
	b := codec.Int(room, 5)
	if b[0] = 9; room[0] != 0 {
		t.Error("shared")
	}
}

func TestBytes(t *testing.T) {
	for _, c := range []struct {
		r api.Request
		b []byte
	}{
		{api.Request{Kind: 1, Change: api.Change{Kind: 1, Point: api.Point{ID: 1, X: 2, Y: -1}}}, []byte{1, 2, 4, 1}},
		{change(1), []byte{1, 10, 12, 13}}, {change(2), []byte{2, 10}}, {change(3), []byte{3, 16, 17, 20}}, {change(4), []byte{4, 16}},
		{query(1), []byte{17, 2, 3, 6, 8}}, {query(2), []byte{18, 2, 3, 6, 8}}, {query(3), []byte{19, 10, 12, 13}}, {query(4), []byte{20, 10, 12, 13}}, {query(5), []byte{21, 16}}, {query(6), []byte{22, 16, 17}}, {query(7), []byte{23, 16, 17}},
	} {
		if b, e := codec.Encode(c.r); !bytes.Equal(b, c.b) || e != api.OK {
			t.Error(c.r, b, e)
		}
		if r, e := codec.Decode(c.b); r != only(c.r) || r != codec.Only(c.r) || e != api.OK {
			t.Error(c.b, r, e)
		}
		if r, e := codec.Decode(append(bytes.Clone(c.b), 0)); r != (api.Request{}) || e != api.ErrForm {
			t.Error("something else behind", c.b)
		}
		for i := range c.b {
			if r, e := codec.Decode(c.b[:i]); r != (api.Request{}) || e != api.ErrForm {
				t.Error("cut", c.b[:i])
			}
		}
	}
}

func TestWhateverBytes(t *testing.T) {
	seed, good := uint32(1), 0
	for range 200000 {
		seed = seed*1664525 + 1013904223
		b := make([]byte, int(seed>>28))
		for i := range b {
			seed = seed*1664525 + 1013904223
			if b[i] = byte(seed >> 24); i > 0 && seed>>16&1 == 0 {
				b[i] &= 0x83
			} else if i == 0 {
				b[i] %= 26
			}
		}
		was := bytes.Clone(b)
		r, e := codec.Decode(b)
		if !bytes.Equal(b, was) {
			t.Fatal("changed")
		}
		if e != api.OK {
			if e != api.ErrForm || r != (api.Request{}) {
				t.Fatal(b, r, e)
			}
			continue
		}
		good++
		if back, e := codec.Encode(r); e != api.OK || !bytes.Equal(back, b) || codec.Only(r) != r {
			t.Fatal(b, r, back)
		}
	}
	if good < 1000 {
		t.Error("too few were requests", good)
	}
	for c := range 256 {
		_, e := codec.Decode([]byte{byte(c), 2, 2, 2, 2})
		_, f := codec.Decode([]byte{byte(c), 2, 2, 2})
		_, g := codec.Decode([]byte{byte(c), 2, 2})
		_, h := codec.Decode([]byte{byte(c), 2})
		four, three, two, one := c == 17 || c == 18, c == 1 || c == 3 || c == 19 || c == 20, c == 22 || c == 23, c == 2 || c == 4 || c == 21
		if (e == api.OK) != four || (f == api.OK) != three || (g == api.OK) != two || (h == api.OK) != one {
			t.Error("first byte", c)
		}
	}
}
