package trap_test

import (
	"errors"
	"testing"

	"alidade/api"
	"alidade/trap"
)

func thrown(f func()) (v any) {
	defer func() { v = recover() }()
	f()
	return nil
}

func TestThrow(t *testing.T) {
	if v := thrown(func() { trap.Throw(3, api.ErrFull) }); v != (api.Fault{Where: 3, Code: api.ErrFull}) {
		t.Error(v)
	}
	if v := thrown(func() { trap.Throw(-7, api.Errno(99)) }); v != (api.Fault{Where: -7, Code: 99}) {
		t.Error(v)
	}
	if v := thrown(func() { trap.Throw(3, api.OK) }); v != nil {
		t.Error("of OK nothing", v)
	}
}

func TestCatch(t *testing.T) {
	var none []int
	var empty map[int]int
	for i, c := range []struct {
		f  func()
		w  api.Fault
		ok bool
	}{
		{func() {}, api.Fault{}, false},
		{nil, api.Fault{Code: api.ErrArg}, true},
		{func() { trap.Throw(4, api.ErrBusy) }, api.Fault{Where: 4, Code: api.ErrBusy}, true},
		{func() { trap.Throw(4, api.OK) }, api.Fault{}, false},
		{func() { panic(api.Fault{Where: 9}) }, api.Fault{Where: 9}, true},
		{func() { panic("text") }, api.Fault{Code: api.ErrArg}, true},
		{func() { panic(api.ErrFull) }, api.Fault{Code: api.ErrArg}, true},
		{func() { panic(&api.Fault{Where: 1, Code: api.ErrFull}) }, api.Fault{Code: api.ErrArg}, true},
		{func() { panic(errors.New("x")) }, api.Fault{Code: api.ErrArg}, true},
		{func() { panic(nil) }, api.Fault{Code: api.ErrArg}, true},
		{func() { none[len(none)]++ }, api.Fault{Code: api.ErrArg}, true},
		{func() { empty[1] = 1 }, api.Fault{Code: api.ErrArg}, true},
	} {
		if f, ok := trap.Catch(c.f); f != c.w || ok != c.ok {
			t.Error(i, f, ok)
		}
	}
	called := 0
	if trap.Catch(func() { called++ }); called != 1 {
		t.Error("called", called)
	}
}

func TestCodeAndValue(t *testing.T) {
	if e := trap.Code(func() api.Errno { trap.Throw(3, api.ErrFull); return api.OK }); e != api.ErrFull {
		t.Error(e)
	}
	if e := trap.Code(func() api.Errno { return api.ErrDup }); e != api.ErrDup {
		t.Error(e)
	}
	if e := trap.Code(func() api.Errno { return api.OK }); e != api.OK {
		t.Error(e)
	}
	if e := trap.Code(func() api.Errno { panic(1) }); e != api.ErrArg {
		t.Error(e)
	}
	if e := trap.Code(nil); e != api.ErrArg {
		t.Error("nil", e)
	}
	if v, e := trap.Value(func() int { return 7 }); v != 7 || e != api.OK {
		t.Error(v, e)
	}
	if v, e := trap.Value(func() string { trap.Throw(0, api.ErrLong); return "x" }); v != "" || e != api.ErrLong {
		t.Error(v, e)
	}
	if v, e := trap.Value[[]int](nil); v != nil || e != api.ErrArg {
		t.Error(v, e)
	}
	if v, e := trap.Value(func() (n int) { n = 5; panic("x") }); v != 0 || e != api.ErrArg {
		t.Error(v, e)
	}
}

func TestMustAndIndex(t *testing.T) {
	if trap.Must(5, api.OK) != 5 {
		t.Error("Must")
	}
	if v := thrown(func() { trap.Must(5, api.ErrNone) }); v != (api.Fault{Code: api.ErrNone}) {
		t.Error(v)
	}
	l := []string{"a", "b"}
	if trap.Index(l, 0) != "a" || trap.Index(l, 1) != "b" {
		t.Error("Index")
	}
	for _, i := range []int{-1, 2, 1 << 62, -1 << 63} {
		if v := thrown(func() { trap.Index(l, i) }); v != (api.Fault{Code: api.ErrArg}) {
			t.Error(i, v)
		}
	}
	if v := thrown(func() { trap.Index([]int(nil), 0) }); v != (api.Fault{Code: api.ErrArg}) {
		t.Error(v)
	}
}

func TestFirst(t *testing.T) {
	calls := 0
	ok := func() api.Errno { calls++; return api.OK }
	bad := func() api.Errno { calls++; return api.ErrDup }
	throws := func() api.Errno { calls++; trap.Throw(1, api.ErrOver); return api.OK }
	for i, c := range []struct {
		l    []func() api.Errno
		n    int
		e    api.Errno
		many int
	}{
		{nil, 0, api.OK, 0}, {[]func() api.Errno{ok, ok}, 2, api.OK, 2}, {[]func() api.Errno{ok, bad, throws}, 1, api.ErrDup, 2},
		{[]func() api.Errno{throws, bad}, 0, api.ErrOver, 1}, {[]func() api.Errno{ok, ok, nil, bad}, 2, api.ErrArg, 2},
	} {
		calls = 0
		if n, e := trap.First(c.l...); n != c.n || e != c.e || calls != c.many {
			t.Error(i, n, e, calls)
		}
	}
}

func TestTheInnerOneHasIt(t *testing.T) {
	var in api.Fault
	var inner bool
	out, outer := trap.Catch(func() {
		in, inner = trap.Catch(func() { trap.Throw(2, api.ErrForm) })
	})
	if !inner || in != (api.Fault{Where: 2, Code: api.ErrForm}) || outer || out != (api.Fault{}) {
		t.Error(in, inner, out, outer)
	}
	out, outer = trap.Catch(func() {
		trap.Catch(func() { trap.Throw(2, api.ErrForm) })
		trap.Throw(5, api.ErrState)
	})
	if !outer || out != (api.Fault{Where: 5, Code: api.ErrState}) {
		t.Error(out, outer)
	}
}
