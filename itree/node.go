package itree

import (
	"slices"

	"alidade/api"
	"alidade/box"
	"alidade/kern"
	"alidade/pick"
	"alidade/sorted"
)

// The two ways in which a node keeps its intervals.
const (
	byOrder = iota
	byEnds
)

// Node is a node of a tree: a middle, and the intervals that it stabs, in both orders.
type Node struct {
	middle int
	own    [2][]api.Span
	kids   [2]*Node
	size   int
}

// Look is the ids of the node's own intervals that overlap the one from lo to hi, and the kids that are to be looked at.
func (n *Node) Look(lo, hi int) (ids []int, next []*Node) {
	if n == nil || lo > hi {
		return nil, nil
	}
	for _, s := range n.touched(lo, hi) {
		ids = append(ids, s.ID)
	}
	may := [2]bool{lo < n.middle, hi > n.middle}
	for side, kid := range n.kids {
		if kid != nil && may[side] {
			next = append(next, kid)
		}
	}
	return sorted.Sort(ids, func(a, b int) bool { return a < b }), next
}

// Size is how many intervals there are from this node on down.
func (n *Node) Size() int {
	if n == nil {
		return 0
	}
	return n.size
}

// touched is the node's own intervals that overlap the one from lo to hi.
func (n *Node) touched(lo, hi int) []api.Span {
	switch {
	case hi < n.middle:
		l := n.own[byOrder]
		return l[:sorted.Behind(l, api.Span{Lo: hi}, func(s, t api.Span) bool { return s.Lo < t.Lo })]
	case lo > n.middle:
		l := n.own[byEnds]
		return l[sorted.First(l, api.Span{Hi: lo}, func(s, t api.Span) bool { return s.Hi < t.Hi }):]
	}
	return n.own[byOrder]
}

// ahead tells how a node keeps its intervals.
func ahead(way int) func(s, t api.Span) bool {
	compare := kern.Order
	if way == byEnds {
		compare = kern.Ends
	}
	return func(s, t api.Span) bool { return compare(s, t) < 0 }
}

// built is a tree of l: its middle is the middle one of all ends, so that no side has more than half of l.
func built(l []api.Span) *Node {
	if len(l) == 0 {
		return nil
	}
	ends := make([]int, 0, 2*len(l))
	for _, s := range l {
		ends = append(ends, s.Lo, s.Hi)
	}
	middle, _ := pick.Median(ends, func(a, b int) bool { return a < b })
	n := &Node{middle: middle, size: len(l)}
	var own []api.Span
	var sides [2][]api.Span
	for _, s := range l {
		if box.Stabs(s, middle) {
			own = append(own, s)
		} else {
			side := n.side(s)
			sides[side] = append(sides[side], s)
		}
	}
	for way := range n.own {
		n.own[way] = sorted.Sort(own, ahead(way))
	}
	for side := range n.kids {
		n.kids[side] = built(sides[side])
	}
	return n
}

// side is the side of the node on which s belongs, which the middle does not stab.
func (n *Node) side(s api.Span) int {
	if s.Hi < n.middle {
		return 0
	}
	return 1
}

func (n *Node) has(s api.Span) bool {
	return sorted.Has(n.own[byOrder], s, ahead(byOrder))
}

// put lets s be one of the node's own.
func (n *Node) put(s api.Span) {
	for way, l := range n.own {
		n.own[way] = slices.Insert(l, sorted.First(l, s, ahead(way)), s)
	}
}

// cut lets s, one of the node's own, go.
func (n *Node) cut(s api.Span) {
	for way, l := range n.own {
		at := sorted.First(l, s, ahead(way))
		n.own[way] = slices.Delete(l, at, at+1)
	}
}

// leans tells whether one side has more than three of four intervals.
func (n *Node) leans() bool {
	return max(n.kids[0].Size(), n.kids[1].Size()) > n.size*3/4
}

// all is the intervals from this node on down.
func (n *Node) all(l []api.Span) []api.Span {
	if n == nil {
		return l
	}
	l = append(l, n.own[byOrder]...)
	for _, kid := range n.kids {
		l = kid.all(l)
	}
	return l
}

func (n *Node) depth() int {
	if n == nil {
		return 0
	}
	return 1 + max(n.kids[0].depth(), n.kids[1].depth())
}

// right tells whether all from this node on down is as it should be, and lies between low and high.
func (n *Node) right(low, high int) bool {
	if n == nil {
		return true
	}
	own := n.own[byOrder]
	if len(own) == 0 && (n.kids[0] == nil || n.kids[1] == nil) {
		return false
	}
	for i, s := range own {
		if !kern.Fair(s) || !box.Stabs(s, n.middle) || s.Lo <= low || s.Hi >= high || (i > 0 && kern.Order(own[i-1], s) >= 0) {
			return false
		}
	}
	if !slices.Equal(n.own[byEnds], sorted.Sort(own, ahead(byEnds))) || n.leans() {
		return false
	}
	if n.size != len(own)+n.kids[0].Size()+n.kids[1].Size() || n.middle <= low || n.middle >= high {
		return false
	}
	return n.kids[0].right(low, n.middle) && n.kids[1].right(n.middle, high)
}
