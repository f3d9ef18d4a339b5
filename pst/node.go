package pst

import (
	"alidade/api"
	"alidade/box"
	"alidade/kern"
)

// Node is a node of a tree: its point, and the point by which those below are parted.
type Node struct {
	point api.Point
	split api.Point
	kids  [2]*Node
	size  int
}

// Point is the node's point.
func (n *Node) Point() api.Point {
	if n == nil {
		return api.Point{}
	}
	return n.point
}

// Look tells whether w sees the node's point, and which of its kids are to be looked at.
func (n *Node) Look(w api.Win) (hit bool, next []*Node) {
	if n == nil || n.point.Y < w.Y {
		return false, nil
	}
	if w.X1 > w.X2 {
		return false, nil
	}
	may := [2]bool{w.X1 <= n.split.X, n.split.X <= w.X2}
	for side, kid := range n.kids {
		if kid != nil && may[side] {
			next = append(next, kid)
		}
	}
	return box.Sees(w, n.point), next
}

// Size is how many nodes there are from this one on down.
func (n *Node) Size() int {
	if n == nil {
		return 0
	}
	return n.size
}

// leaf is a node of p alone.
func leaf(p api.Point) *Node {
	return &Node{point: p, split: p, size: 1}
}

// built is a tree of l, which is in the order Cmp, as flat as can be.
func built(l []api.Point) *Node {
	if len(l) == 0 {
		return nil
	}
	top := 0
	for i, p := range l {
		if kern.Up(p, l[top]) > 0 {
			top = i
		}
	}
	n := leaf(l[top])
	n.size = len(l)
	rest := make([]api.Point, 0, len(l)-1)
	rest = append(rest, l[:top]...)
	rest = append(rest, l[top+1:]...)
	if half := (len(rest) + 1) / 2; half > 0 {
		n.split = rest[half-1]
		n.kids = [2]*Node{built(rest[:half]), built(rest[half:])}
	}
	return n
}

// side is the side of the node on which p belongs.
func (n *Node) side(p api.Point) int {
	if kern.Cmp(p, n.split) <= 0 {
		return 0
	}
	return 1
}

// higher is the side of the kid whose point is the higher one; false, if there is no kid.
func (n *Node) higher() (int, bool) {
	low, high := n.kids[0], n.kids[1]
	switch {
	case low == nil && high == nil:
		return 0, false
	case low == nil:
		return 1, true
	case high == nil || kern.Up(low.point, high.point) > 0:
		return 0, true
	}
	return 1, true
}

// leans tells whether one side has more than three of four nodes.
func (n *Node) leans() bool {
	return max(n.kids[0].Size(), n.kids[1].Size()) > n.size*3/4
}

// visit calls do with the points of all nodes from this one on down.
func (n *Node) visit(do func(p api.Point)) {
	if n == nil {
		return
	}
	do(n.point)
	for _, kid := range n.kids {
		kid.visit(do)
	}
}

// seek calls do with all points that w sees, from this node on down.
func (n *Node) seek(w api.Win, do func(p api.Point)) {
	hit, next := n.Look(w)
	if hit {
		do(n.point)
	}
	for _, kid := range next {
		kid.seek(w, do)
	}
}

func (n *Node) depth() int {
	if n == nil {
		return 0
	}
	return 1 + max(n.kids[0].depth(), n.kids[1].depth())
}

// right tells whether all from this node on down is as it should be, and its points satisfy may.
func (n *Node) right(may func(p api.Point) bool) bool {
	if n == nil {
		return true
	}
	if !may(n.point) || n.size != 1+n.kids[0].Size()+n.kids[1].Size() {
		return false
	}
	for s, kid := range n.kids {
		fits := func(p api.Point) bool {
			return kern.Up(p, n.point) < 0 && n.side(p) == s && may(p)
		}
		if !kid.right(fits) {
			return false
		}
	}
	return true
}
