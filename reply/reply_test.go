package reply_test

import (
	"bytes"
	"math"
	"slices"
	"testing"

	"alidade/api"
	"alidade/codec"
	"alidade/reply"
)

func count(n int) api.Reply { return api.Reply{Asked: true, Answer: api.Answer{N: n}} }

func list(ids ...int) api.Reply {
	return api.Reply{Asked: true, Listed: true, Answer: api.Answer{N: len(ids), IDs: ids}}
}

func good() []api.Reply {
	l := []api.Reply{count(0), count(1), count(api.MaxIDs), list(), list(1), list(api.MaxID), list(3, 5), list(7, 7, 7), list(1, 1, 64, 65, 9000, api.MaxID, api.MaxID)}
	for e := api.OK; e <= api.ErrOver; e++ {
		l = append(l, reply.Changed(e))
	}
	many := make([]int, api.MaxIDs)
	for i := range many {
		many[i] = 1 + i/3
	}
	return append(l, list(many...), api.Reply{Code: api.ErrDup, Answer: api.Answer{IDs: []int{}}})
}

func wrong() []api.Reply {
	one := api.Answer{N: 1, IDs: []int{1}}
	return []api.Reply{
		{Code: -1}, {Code: 13}, {Code: math.MaxInt}, {Code: 256}, {Listed: true}, {Code: 5, Listed: true}, {Code: 5, Asked: true}, {Code: 5, Asked: true, Listed: true}, {Answer: api.Answer{N: 1}}, {Answer: api.Answer{IDs: []int{1}}}, {Code: 5, Answer: one},
		count(-1), count(api.MaxIDs + 1), count(math.MinInt), {Asked: true, Answer: one}, {Asked: true, Listed: true, Answer: api.Answer{N: 2, IDs: []int{1}}}, {Asked: true, Listed: true, Answer: api.Answer{IDs: []int{1}}}, {Asked: true, Listed: true, Answer: api.Answer{N: 1}},
		list(0), list(-1), list(api.MaxID + 1), list(5, 4), list(1, 2, 1), list(math.MinInt, 1), list(make([]int, api.MaxIDs+1)...), {Listed: true, Answer: one},
	}
}

func TestGood(t *testing.T) {
	for _, r := range good() {
		if !reply.Good(r) {
			t.Error(r.Code, r.Answer.N)
		}
	}
	for i, r := range wrong() {
		if b, e := reply.Encode(r); reply.Good(r) || len(b) != 0 || e != api.ErrForm {
			t.Error(i, e)
		}
	}
	many := slices.Repeat([]int{4}, api.MaxIDs+1)
	if reply.Good(list(many...)) {
		t.Error("too many")
	}
}

func TestBytes(t *testing.T) {
	for _, c := range []struct {
		r api.Reply
		b []byte
	}{
		{reply.Changed(api.ErrDup), []byte{5}}, {reply.Changed(api.OK), []byte{0}}, {list(3, 5), []byte{0, 2, 4, 6, 4}}, {list(), []byte{0, 2, 0}}, {count(0), []byte{0, 1, 0}}, {count(64), []byte{0, 1, 0x80, 1}}, {list(7, 7), []byte{0, 2, 4, 14, 0}},
	} {
		if b, e := reply.Encode(c.r); !bytes.Equal(b, c.b) || e != api.OK {
			t.Error(c.r, b, e)
		}
	}
	for i, r := range good() {
		b, e := reply.Encode(r)
		if e != api.OK {
			t.Fatal(i, e)
		}
		back, e := reply.Decode(b)
		if e != api.OK || !reply.Same(back, r) {
			t.Fatal(i, e)
		}
		if len(b) > 100 {
			continue
		}
		for k := range b {
			if r, e := reply.Decode(b[:k]); e != api.OK && (e != api.ErrForm || !reply.Same(r, api.Reply{})) {
				t.Error("cut", b[:k], r, e)
			}
		}
		if r, e := reply.Decode(append(b, 0)); e != api.ErrForm || !reply.Same(r, api.Reply{}) {
			t.Error("something else behind", b)
		}
	}
}

func TestBytesThatAreNone(t *testing.T) {
	big := codec.Int(nil, api.MaxIDs+1)
	for _, b := range [][]byte{nil, {13}, {255}, {0, 0}, {0, 3, 0}, {5, 1, 0}, {5, 2, 0}, {0, 1}, {0, 2}, {0, 1, 1}, {0, 2, 1}, {0, 1, 0x80, 0}, {0, 2, 2}, {0, 2, 2, 0}, {0, 2, 2, 1}, {0, 2, 4, 6}, {0, 2, 4, 6, 1}, {0, 1, 2, 2}, {0, 2, 2, 2, 2},
		append([]byte{0, 1}, big...), append([]byte{0, 2}, big...), append([]byte{0, 2, 2}, codec.Int(nil, api.MaxID+1)...), append([]byte{0, 2, 4, 2}, codec.Int(nil, api.MaxID)...), append([]byte{0, 2, 4, 2}, codec.Int(nil, math.MaxInt)...)} {
		if r, e := reply.Decode(b); e != api.ErrForm || !reply.Same(r, api.Reply{}) {
			t.Error(b, r, e)
		}
	}
}

func TestWhateverBytes(t *testing.T) {
	seed, fine := uint32(1), 0
	for range 200000 {
		seed = seed*1664525 + 1013904223
		b := make([]byte, int(seed>>29))
		for i := range b {
			seed = seed*1664525 + 1013904223
			b[i] = byte(seed>>24) % []byte{14, 3, 8, 200, 200, 200, 200, 200}[i]
		}
		was := bytes.Clone(b)
		r, e := reply.Decode(b)
		if !bytes.Equal(b, was) {
			t.Fatal("changed")
		}
		if e != api.OK {
			if e != api.ErrForm || !reply.Same(r, api.Reply{}) {
				t.Fatal(b, r, e)
			}
			continue
		}
		fine++
		if back, e := reply.Encode(r); !reply.Good(r) || e != api.OK || !bytes.Equal(back, b) {
			t.Fatal(b, r, back)
		}
	}
	if fine < 1000 {
		t.Error("too few were replies", fine)
	}
}

func TestToldAndChanged(t *testing.T) {
	a := api.Answer{N: 2, IDs: []int{3, 5}}
	for kind := 1; kind <= 7; kind++ {
		q := api.Query{Kind: kind}
		counts := kind == 2 || kind == 4 || kind == 7
		w := list(3, 5)
		if counts {
			w = count(2)
		}
		r := reply.Told(q, a, api.OK)
		if !reply.Same(r, w) {
			t.Error(kind, r)
		}
		if !counts {
			if r.Answer.IDs[0] = 9; a.IDs[0] != 3 {
				t.Error("shared")
			}
		}
		if r := reply.Told(q, a, api.ErrRange); !reply.Same(r, api.Reply{Code: api.ErrRange}) {
			t.Error("its code alone", r)
		}
	}
	for e := api.Errno(-2); e < 20; e++ {
		if !reply.Same(reply.Changed(e), api.Reply{Code: e}) {
			t.Error("Changed", e)
		}
	}
}

func TestSame(t *testing.T) {
	l := append(wrong(), good()...)
	for i, a := range l {
		for j, b := range l {
			w := a.Code == b.Code && a.Asked == b.Asked && a.Listed == b.Listed && a.Answer.N == b.Answer.N && slices.Equal(a.Answer.IDs, b.Answer.IDs)
			if reply.Same(a, b) != w {
				t.Error(i, j)
			}
		}
	}
	if !reply.Same(api.Reply{Answer: api.Answer{IDs: []int{}}}, api.Reply{}) || reply.Same(list(1, 2), list(1, 3)) || reply.Same(list(1), count(1)) {
		t.Error("Same")
	}
}
