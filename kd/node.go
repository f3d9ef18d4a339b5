package kd

import (
	"alidade/api"
	"alidade/box"
	"alidade/kern"
	"alidade/pick"
)

// Node is a node of a tree.
type Node struct {
	point api.Point
	here  bool
	kids  [2]*Node
	box   api.Box
	size  int
}

// entry is a point that is to be put in its place, and whether it is there.
type entry struct {
	point api.Point
	here  bool
}

// Point is the node's point, and whether that is there.
func (n *Node) Point() (api.Point, bool) {
	if n == nil {
		return api.Point{}, false
	}
	return n.point, n.here
}

// Kids is the node's kids, what lies ahead first.
func (n *Node) Kids() []*Node {
	if n == nil {
		return nil
	}
	var l []*Node
	for _, kid := range n.kids {
		if kid != nil {
			l = append(l, kid)
		}
	}
	return l
}

// Box is the least box that has the points of all nodes from this one on down.
func (n *Node) Box() api.Box {
	if n == nil {
		return api.Box{}
	}
	return n.box
}

// Size is how many nodes there are from this one on down.
func (n *Node) Size() int {
	if n == nil {
		return 0
	}
	return n.size
}

// order is how the points of a level are parted: by X and by Y in turns.
func order(level int) func(p, q api.Point) int {
	if level%2 == 1 {
		return kern.Up
	}
	return kern.Cmp
}

func ahead(level int) func(a, b entry) bool {
	compare := order(level)
	return func(a, b entry) bool { return compare(a.point, b.point) < 0 }
}

// side is the side of a node of that level, whose point is at, on which p belongs.
func side(level int, p, at api.Point) int {
	if order(level)(p, at) < 0 {
		return 0
	}
	return 1
}

// built is a tree of l, as flat as can be, whose root is of that level.
func built(l []entry, level int) *Node {
	low, mid, high, ok := pick.Split(l, len(l)/2, ahead(level))
	if !ok {
		return nil
	}
	n := &Node{point: mid.point, here: mid.here}
	n.kids = [2]*Node{built(low, level+1), built(high, level+1)}
	n.size = len(l)
	n.box = n.around()
	return n
}

// around is what Box should be, if it is right of the kids.
func (n *Node) around() api.Box {
	b, _ := box.Around(n.point)
	for _, kid := range n.kids {
		if kid != nil {
			b = api.Box{X1: min(b.X1, kid.box.X1), X2: max(b.X2, kid.box.X2), Y1: min(b.Y1, kid.box.Y1), Y2: max(b.Y2, kid.box.Y2)}
		}
	}
	return b
}

// took lets the node know that p came below it.
func (n *Node) took(p api.Point) {
	n.size++
	n.box = api.Box{X1: min(n.box.X1, p.X), X2: max(n.box.X2, p.X), Y1: min(n.box.Y1, p.Y), Y2: max(n.box.Y2, p.Y)}
}

// leans tells whether one side has more than three of four nodes.
func (n *Node) leans() bool {
	return max(n.kids[0].Size(), n.kids[1].Size()) > n.size*3/4
}

// visit calls do with each node from this one on down; where look says no, it goes no further.
func (n *Node) visit(look func(n *Node) bool, do func(n *Node)) {
	if n == nil || !look(n) {
		return
	}
	do(n)
	for _, kid := range n.kids {
		kid.visit(look, do)
	}
}

func (n *Node) depth() int {
	if n == nil {
		return 0
	}
	return 1 + max(n.kids[0].depth(), n.kids[1].depth())
}
