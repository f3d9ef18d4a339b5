package segs

import (
	"slices"

	"alidade/sorted"
)

// Node is a node of a tree: its cells, and the ids of the intervals that lie at it, rising.
type Node struct {
	from, to int
	ids      []int
	kids     [2]*Node
}

// Look is the ids of the intervals that lie at the node, and the kid that has the cell.
func (n *Node) Look(cell int) (ids []int, next *Node) {
	if n == nil || cell < n.from || cell > n.to {
		return nil, nil
	}
	for _, kid := range n.kids {
		if kid != nil && kid.from <= cell && cell <= kid.to {
			next = kid
		}
	}
	return append([]int(nil), n.ids...), next
}

// Cells is the node's first cell, and its last one.
func (n *Node) Cells() (from, to int) {
	if n == nil {
		return 0, 0
	}
	return n.from, n.to
}

// built is a tree of the cells from 0 to last, at which nothing lies.
func built(last int) *Node {
	// All nodes in one piece: there are one less than two for each cell.
	nodes := make([]Node, 2*last+1)
	taken := 0
	var grow func(from, to int) *Node
	grow = func(from, to int) *Node {
		n := &nodes[taken]
		taken++
		n.from, n.to = from, to
		if half := n.half(); from < to {
			n.kids = [2]*Node{grow(from, half), grow(half+1, to)}
		}
		return n
	}
	return grow(0, last)
}

// half is the last cell of the first half of the node's cells.
func (n *Node) half() int {
	return n.from + (n.to-n.from)/2
}

// at calls do with each node at which an interval lies of these cells.
func (n *Node) at(from, to int, do func(n *Node)) {
	switch {
	case n == nil || n.to < from || to < n.from:
	case from <= n.from && n.to <= to:
		do(n)
	default:
		for _, kid := range n.kids {
			kid.at(from, to, do)
		}
	}
}

func (n *Node) put(id int) {
	n.ids = slices.Insert(n.ids, sorted.Behind(n.ids, id, below), id)
}

func (n *Node) cut(id int) {
	i := sorted.First(n.ids, id, below)
	n.ids = slices.Delete(n.ids, i, i+1)
}

// alike tells whether both trees have the same cells, and the same lies at their nodes.
func (n *Node) alike(m *Node) bool {
	if n == nil || m == nil {
		return n == m
	}
	if n.from != m.from || n.to != m.to || !slices.Equal(n.ids, m.ids) {
		return false
	}
	return n.kids[0].alike(m.kids[0]) && n.kids[1].alike(m.kids[1])
}

func below(a, b int) bool {
	return a < b
}
