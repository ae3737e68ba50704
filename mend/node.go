package mend

import (
	"cmp"
	"slices"
	"strconv"
	"strings"
)

// A node is the point at/part: both its numbers are fractions of one part,
// which is above 0, so that what is reckoned with stays whole.
type node struct {
	at   complex128
	part int
}

// nodeAt leaves no common divisor, so that equal points are equal nodes. The
// part may be below 0, but not 0.
func nodeAt(at complex128, part int) node {
	x, y := int(real(at)), int(imag(at))
	shared := divisor(divisor(x, y), part)
	if part < 0 {
		shared = -shared
	}
	return node{pointAt(x/shared, y/shared), part / shared}
}

// nodesOf gives each point at which an edge begins or ends, or meets one that
// is not parallel to it, once and in order.
func nodesOf(edges []edge) []node {
	var nodes []node
	for i, e := range edges {
		nodes = append(nodes, nodeAt(e.from, 1), nodeAt(e.to, 1))
		for _, other := range edges[:i] {
			if n, ok := e.meeting(other); ok {
				nodes = append(nodes, n)
			}
		}
	}
	slices.SortFunc(nodes, node.compare)
	return slices.Compact(nodes)
}

// scaled makes a point greater by the node's part.
func (n node) scaled(point complex128) complex128 {
	return point * pointAt(n.part, 0)
}

// wayFrom is the way from a point to the node, made greater by its part.
func (n node) wayFrom(point complex128) complex128 {
	return n.at - n.scaled(point)
}

// compare puts nodes in order by x, and by y where x is the same.
func (n node) compare(other node) int {
	mine, theirs := other.scaled(n.at), n.scaled(other.at)
	return cmp.Or(
		cmp.Compare(real(mine), real(theirs)),
		cmp.Compare(imag(mine), imag(theirs)),
	)
}

func (n node) isLeftOf(other node) bool {
	return real(other.scaled(n.at)) < real(n.scaled(other.at))
}

func (n node) written() string {
	return fraction(int(real(n.at)), n.part) + " " + fraction(int(imag(n.at)), n.part)
}

func writeNodes(nodes []node) string {
	var all []string
	for _, n := range nodes {
		all = append(all, n.written())
	}
	return strings.Join(all, ", ")
}

// fraction divides once more: one of a node's numbers alone may have a divisor
// in common with its part.
func fraction(count, part int) string {
	shared := divisor(count, part)
	if part == shared {
		return strconv.Itoa(count / shared)
	}
	return strconv.Itoa(count/shared) + "/" + strconv.Itoa(part/shared)
}

// divisor is the greatest one that both have in common, and above 0 unless
// both are 0.
func divisor(a, b int) int {
	for b != 0 {
		a, b = b, a%b
	}
	return max(a, -a)
}
