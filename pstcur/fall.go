package pstcur

import (
	"alidade/api"
	"alidade/kern"
	"alidade/pst"
)

// Fall tells points from above.
type Fall struct {
	win    api.Win
	waits  []*pst.Node
	looked int
}

// Down tells the points with an X from x1 to x2.
func Down(t *pst.Tree, x1, x2 int) *Fall {
	if t == nil {
		return nil
	}
	f := &Fall{win: api.Win{X1: x1, X2: x2, Y: -api.MaxCoord}}
	if root := t.Root(); root != nil {
		f.waits = append(f.waits, root)
	}
	return f
}

// Next is the highest point that was not told yet.
func (f *Fall) Next() (api.Point, bool) {
	for f != nil && len(f.waits) > 0 {
		n := f.highest()
		f.looked++
		hit, next := n.Look(f.win)
		for _, kid := range next {
			f.wait(kid)
		}
		if hit {
			return n.Point(), true
		}
	}
	return api.Point{}, false
}

// Take is what the next n Nexts tell, as far as there are points.
func (f *Fall) Take(n int) []api.Point {
	var l []api.Point
	for len(l) < n {
		p, ok := f.Next()
		if !ok {
			break
		}
		l = append(l, p)
	}
	return l
}

// Looked is at how many nodes it looked.
func (f *Fall) Looked() int {
	if f == nil {
		return 0
	}
	return f.looked
}

// wait lets n wait: who waits is a heap, so that none comes behind the one half as far on.
func (f *Fall) wait(n *pst.Node) {
	f.waits = append(f.waits, n)
	for i := len(f.waits) - 1; i > 0 && f.above(i, (i-1)/2); i = (i - 1) / 2 {
		f.swap(i, (i-1)/2)
	}
}

// highest is the node that waits whose point is the highest; it waits no more.
func (f *Fall) highest() *pst.Node {
	top, last := f.waits[0], len(f.waits)-1
	f.swap(0, last)
	f.waits[last] = nil
	f.waits = f.waits[:last]
	for i := 0; ; {
		best := i
		for _, kid := range [2]int{2*i + 1, 2*i + 2} {
			if kid < last && f.above(kid, best) {
				best = kid
			}
		}
		if best == i {
			return top
		}
		f.swap(i, best)
		i = best
	}
}

func (f *Fall) above(i, j int) bool {
	return kern.Up(f.waits[i].Point(), f.waits[j].Point()) > 0
}

func (f *Fall) swap(i, j int) {
	f.waits[i], f.waits[j] = f.waits[j], f.waits[i]
}
