package turf

import "roquet/api"

// First returns the first contact of two places that move.
func First(p, v, q, w api.Point, r, n int64) (int64, api.Errno) {
	if e := checkAll(p, v, q, w); e != api.OK {
		return 0, e
	}
	if r < 0 || r > 2*api.MaxRadius || n < 1 || n > api.MaxParts {
		return 0, api.ErrRange
	}
	// Seen from the first place only the second one moves; all times n nothing has to be rounded.
	from, by := way(p, q), way(v, w)
	for k := range n + 1 {
		if within(n*from.X+k*by.X, n*from.Y+k*by.Y, n*r) {
			return k, api.OK
		}
	}
	return 0, api.ErrNone
}

// within reports whether (x, y) is at most r away from (0, 0).
func within(x, y, r int64) bool {
	// Only squares of numbers up to r are sure to fit a word.
	if x < -r || x > r || y < -r || y > r {
		return false
	}
	return x*x+y*y <= r*r
}

// Towards returns a place on the way to another one.
func Towards(p, q api.Point, l int64) (api.Point, api.Errno) {
	if e := checkAll(p, q); e != api.OK {
		return api.Point{}, e
	}
	if l < 0 || l > api.MaxPlace {
		return api.Point{}, api.ErrRange
	}
	if p == q {
		return api.Point{}, api.ErrZero
	}
	w := way(q, p)
	distance := root(4096 * square(p, q)) // 64 times
	to := api.Point{
		X: q.X + part(64*w.X*l, distance).Whole,
		Y: q.Y + part(64*w.Y*l, distance).Whole,
	}
	if checkAll(to) != api.OK {
		return api.Point{}, api.ErrOver
	}
	return to, api.OK
}
