package kd

import "alidade/api"

// fence is what all points below must lie behind, and ahead of: by the order of even levels, and of odd ones.
type fence struct {
	low, high [2]api.Point
	has       [2][2]bool
}

// narrowed is the fence of a node's one side.
func (f fence) narrowed(level, side int, p api.Point) fence {
	way := level % 2
	if side == 0 {
		f.high[way] = p
	} else {
		f.low[way] = p
	}
	f.has[way][side] = true
	return f
}

func (f fence) holds(p api.Point) bool {
	for way := range f.has {
		compare := order(way)
		if f.has[way][0] && compare(p, f.high[way]) >= 0 {
			return false
		}
		if f.has[way][1] && compare(p, f.low[way]) <= 0 {
			return false
		}
	}
	return true
}

// right tells whether all from this node on down is as it should be.
func (n *Node) right(level int, f fence) bool {
	if n == nil {
		return true
	}
	if !f.holds(n.point) || n.size != 1+n.kids[0].Size()+n.kids[1].Size() {
		return false
	}
	for s, kid := range n.kids {
		if !kid.right(level+1, f.narrowed(level, s, n.point)) {
			return false
		}
	}
	return n.box == n.around()
}
