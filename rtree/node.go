package rtree

import (
	"alidade/api"
	"alidade/cascade"
	"alidade/kern"
	"alidade/sorted"
)

// node is some of a tree's points, in the order Cmp, with their array; of more than one point both halves.
type node struct {
	points []api.Point
	array  *cascade.Array
	kids   [2]*node
}

func built(l []api.Point) *node {
	switch len(l) {
	case 0:
		return nil
	case 1:
		return &node{points: l, array: cascade.Leaf(l[0])}
	}
	half := (len(l) + 1) / 2
	low, high := built(l[:half]), built(l[half:])
	return &node{points: l, array: cascade.Join(low.array, high.array), kids: [2]*node{low, high}}
}

// search looks y up in the node's array, as how says.
func (n *node) search(how func(a *cascade.Array, y int) int, y int) int {
	return how(n.array, y)
}

// edges is the least X of the node's points, and the greatest.
func (n *node) edges() (low, high int) {
	return n.points[0].X, n.points[len(n.points)-1].X
}

// meets tells whether any X of the node's points lies from x1 to x2.
func (n *node) meets(x1, x2 int) bool {
	i := sorted.First(n.points, api.Point{X: x1}, lefter)
	return i < len(n.points) && n.points[i].X <= x2
}

func (n *node) levels() int {
	if n == nil {
		return 0
	}
	return 1 + max(n.kids[0].levels(), n.kids[1].levels())
}

// right tells whether the node has just l, in halves, and the array of it.
func (n *node) right(l []api.Point) bool {
	if n == nil || len(n.points) != len(l) || n.array.Len() != len(l) {
		return false
	}
	rising := sorted.Sort(l, func(p, q api.Point) bool { return kern.Up(p, q) < 0 })
	for i, p := range rising {
		e, _ := n.array.At(i)
		if key(e.P) != key(p) || key(n.points[i]) != key(l[i]) {
			return false
		}
	}
	if len(l) == 1 {
		return n.kids == [2]*node{}
	}
	half := (len(l) + 1) / 2
	return n.kids[0].right(l[:half]) && n.kids[1].right(l[half:])
}

func lefter(p, q api.Point) bool {
	return p.X < q.X
}
