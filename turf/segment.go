package turf

import (
	"cmp"

	"roquet/api"
)

// Square returns the square of two places.
func Square(a, b api.Point) (int64, api.Errno) {
	if e := checkAll(a, b); e != api.OK {
		return 0, e
	}
	return square(a, b), api.OK
}

// square returns the square of two places that are valid.
func square(a, b api.Point) int64 {
	w := way(a, b)
	return w.X*w.X + w.Y*w.Y
}

// Side returns on which side a place lies.
func Side(a, b, p api.Point) (int, api.Errno) {
	if e := checkAll(a, b, p); e != api.OK {
		return 0, e
	}
	return cmp.Compare(leftOf(a, b, p), 0), api.OK
}

// leftOf returns how far p is to the left of the way from a to b, times the length of this way.
func leftOf(a, b, p api.Point) int64 {
	v, w := way(a, b), way(a, p)
	return v.X*w.Y - v.Y*w.X
}

// aheadOf returns how far p is ahead of a along the way from a to b, times the length of this way.
func aheadOf(a, b, p api.Point) int64 {
	v, w := way(a, b), way(a, p)
	return v.X*w.X + v.Y*w.Y
}

// Lies returns how a place lies to a segment.
func Lies(a, b, p api.Point, r int64) (int, api.Errno) {
	if e := checkAll(a, b, p); e != api.OK {
		return 0, e
	}
	if r < 0 || r > 2*api.MaxPlace {
		return 0, api.ErrRange
	}
	return lies(a, b, p, r), api.OK
}

// lies compares the distance of p from the segment with r; all of them have to be valid.
func lies(a, b, p api.Point, r int64) int {
	length, ahead := square(a, b), aheadOf(a, b, p)
	switch {
	case ahead <= 0: // so it is for a segment of no length, too
		return cmp.Compare(square(a, p), r*r)
	case ahead >= length:
		return cmp.Compare(square(b, p), r*r)
	}
	left := leftOf(a, b, p)
	if left < 0 {
		left = -left
	}
	return compareWide(product(left, left), product(r*r, length))
}

// Cuts reports whether a segment cuts a disc.
func Cuts(a, b api.Point, d api.Disc) (bool, api.Errno) {
	if e := checkAll(a, b); e != api.OK {
		return false, e
	}
	if e := CheckDisc(d); e != api.OK {
		return false, e
	}
	return lies(a, b, d.At, d.R) < 0, api.OK
}

// Touch returns how two discs lie to each other.
func Touch(a, b api.Disc) (int, api.Errno) {
	for _, d := range [...]api.Disc{a, b} {
		if e := CheckDisc(d); e != api.OK {
			return 0, e
		}
	}
	both := a.R + b.R
	return cmp.Compare(square(a.At, b.At), both*both), api.OK
}
