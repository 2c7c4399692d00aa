package turf

import (
	"iter"

	"roquet/api"
)

// whole is the radius of the ring in the table quarter.
const whole = 4096

// quarter has the first points of the ring; those of the other quarters are the same, turned.
var quarter = [api.RingSides / 4][2]int64{{whole, 0}, {3784, 1567}, {2896, 2896}, {1567, 3784}}

// Ring returns the ring of a disc.
func Ring(d api.Disc) ([]api.Point, api.Errno) {
	if e := CheckDisc(d); e != api.OK {
		return nil, e
	}
	l := ring(d)
	if checkAll(l...) != api.OK {
		return nil, api.ErrOver
	}
	return l, api.OK
}

// ring returns the ring of a disc, whether its points are valid places or not.
func ring(d api.Disc) []api.Point {
	l := make([]api.Point, api.RingSides)
	for k := range l {
		c, s := corner(k)
		// Go's quotients are rounded towards 0, as those of a ring have to be.
		l[k] = api.Point{X: d.At.X + d.R*c/whole, Y: d.At.Y + d.R*s/whole}
	}
	return l
}

// corner returns the pair (c, s) of the point k of a ring.
func corner(k int) (int64, int64) {
	pair := quarter[k%len(quarter)]
	c, s := pair[0], pair[1]
	for range k / len(quarter) {
		c, s = -s, c
	}
	return c, s
}

// sides yields the ways from each point of a ring to the next one that is another one. Of points that are the same and follow each other only the last one counts, as the ways of all of them are the same.
func sides(l []api.Point) iter.Seq2[api.Point, api.Point] {
	return func(yield func(from, to api.Point) bool) {
		for k, from := range l {
			to := l[(k+1)%len(l)]
			if from != to && !yield(from, to) {
				return
			}
		}
	}
}

// Passes reports whether a segment passes a ring.
func Passes(a, b api.Point, d api.Disc) (bool, api.Errno) {
	if e := checkAll(a, b); e != api.OK {
		return false, e
	}
	l, e := Ring(d)
	if e != api.OK {
		return false, e
	}
	return passes(a, b, l), api.OK
}

// share is a share of a segment, from its beginning: part / of. If of is 0 there is none.
type share struct {
	part, of int64
}

// less reports whether one share is less than another one, compared exactly.
func (s share) less(t share) bool {
	return compareWide(product(s.part, t.of), product(t.part, s.of)) < 0
}

// passes reports whether a point of the segment from a to b lies inside of the ring l.
//
// How far a point is to the left of a side changes evenly along the segment. So if just one end is to the left of it, all points after some share of the segment are, or all points before one. Inside are the points after the greatest of the former shares, and before the least of the latter ones.
func passes(a, b api.Point, l []api.Point) bool {
	sided := false
	var enters, leaves share
	for from, to := range sides(l) {
		sided = true
		first, last := leftOf(from, to, a), leftOf(from, to, b)
		switch {
		case first <= 0 && last <= 0:
			return false
		case first <= 0:
			if s := (share{-first, last - first}); enters.of == 0 || enters.less(s) {
				enters = s
			}
		case last <= 0:
			if s := (share{first, first - last}); leaves.of == 0 || s.less(leaves) {
				leaves = s
			}
		}
	}
	if enters.of == 0 || leaves.of == 0 {
		// One of the ends is to the left of all sides, if there are any.
		return sided
	}
	return enters.less(leaves)
}
