// Package turf is layer 1, the exact plane geometry of a lawn: see shared/doc/01-turf.md.
//
// No result is rounded unless the document says so: comparisons are made of squares and of products, in two words where one is too short.
package turf

import "roquet/api"

// Check reports whether a place is valid.
func Check(p api.Point) api.Errno {
	return checkAll(p)
}

// CheckDisc reports whether a disc is valid.
func CheckDisc(d api.Disc) api.Errno {
	if d.R < 1 || d.R > api.MaxRadius {
		return api.ErrArg
	}
	return checkAll(d.At)
}

// checkAll reports whether all of these places, or ways, are valid.
func checkAll(l ...api.Point) api.Errno {
	for _, p := range l {
		if !fits(p.X) || !fits(p.Y) {
			return api.ErrArg
		}
	}
	return api.OK
}

// fits reports whether n is possible as a coordinate.
func fits(n int64) bool {
	return -api.MaxPlace <= n && n <= api.MaxPlace
}

// way returns the way from a to b.
func way(a, b api.Point) api.Point {
	return api.Point{X: b.X - a.X, Y: b.Y - a.Y}
}
