package mend

// Points and ways of the plane are complex numbers with whole parts. Those
// parts stay below 2^17, even scaled up and seen from the farthest point that
// may be asked for, and the parts of a product of two below 2^35: floats hold
// all of them exactly.

func pointAt(x, y int) complex128 {
	return complex(float64(x), float64(y))
}

func mirror(way complex128) complex128 {
	return complex(real(way), -imag(way))
}

// turn compares two ways: its real part is above 0 if they go together and
// below 0 if against each other; its imaginary part is above 0 if the second
// is to the left of the first and below 0 if to the right.
func turn(first, second complex128) complex128 {
	return mirror(first) * second
}

// An edge is the way from one point to another.
type edge struct {
	from, to complex128
}

// edgesOf closes each ring, and leaves out the ways of no length: no point
// lies on such a one.
func edgesOf(rings [][]complex128) []edge {
	var edges []edge
	for _, ring := range rings {
		for i, from := range ring {
			to := ring[(i+1)%len(ring)]
			if from != to {
				edges = append(edges, edge{from, to})
			}
		}
	}
	return edges
}
