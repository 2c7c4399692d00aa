package referee

import (
	"iter"
	"slices"

	"roquet/api"
	"roquet/lawn"
	"roquet/turf"
)

// line is the line (i, k) between two balls.
type line struct {
	i, k     int
	from, to api.Point
}

// passes reports whether the line passes the ring of a ball.
func (x line) passes(d api.Disc) bool {
	passes, _ := turf.Passes(x.from, x.to, d)
	return passes
}

// isCutBy reports whether a post cuts the line.
func (x line) isCutBy(post api.Disc) bool {
	cuts, _ := turf.Cuts(x.from, x.to, post)
	return cuts
}

// Direct returns the direct lines between two balls.
func Direct(a, b api.Disc) ([][2]int, api.Errno) {
	if e := checkBalls(a, b); e != api.OK {
		return nil, e
	}
	var l [][2]int
	for x := range direct(a, b) {
		l = append(l, [2]int{x.i, x.k})
	}
	return l, api.OK
}

// Open returns the first open line between two balls.
func Open(l api.Lawn, a, b api.Disc) (int, int, api.Errno) {
	posts, e := postsFor(l, a, b)
	if e != api.OK {
		return 0, 0, e
	}
	for x := range direct(a, b) {
		if !slices.ContainsFunc(posts, x.isCutBy) {
			return x.i, x.k, api.OK
		}
	}
	return 0, 0, api.ErrWired
}

// Cut returns a proof that a ball is wired.
func Cut(l api.Lawn, a, b api.Disc) ([]int, api.Errno) {
	posts, e := postsFor(l, a, b)
	if e != api.OK {
		return nil, e
	}
	var proof []int
	for x := range direct(a, b) {
		first := slices.IndexFunc(posts, x.isCutBy)
		if first < 0 {
			return nil, api.ErrNone
		}
		proof = append(proof, first)
	}
	return proof, api.OK
}

// CheckCut checks a proof that a ball is wired.
func CheckCut(l api.Lawn, a, b api.Disc, posts []int) api.Errno {
	all, e := postsFor(l, a, b)
	if e != api.OK {
		return e
	}
	lines := slices.Collect(direct(a, b))
	if len(posts) != len(lines) {
		return api.ErrEqual
	}
	for n, x := range lines {
		if !between(posts[n], 0, len(all)-1) || !x.isCutBy(all[posts[n]]) {
			return api.ErrSum
		}
	}
	return api.OK
}

// direct yields the direct lines between two valid balls, in order.
func direct(a, b api.Disc) iter.Seq[line] {
	return func(yield func(line) bool) {
		from, _ := turf.Ring(a)
		to, _ := turf.Ring(b)
		for i, p := range from {
			for k, q := range to {
				x := line{i, k, p, q}
				if !x.passes(a) && !x.passes(b) && !yield(x) {
					return
				}
			}
		}
	}
}

// postsFor returns the posts of a lawn, or the first error of the lawn and of two balls.
func postsFor(l api.Lawn, a, b api.Disc) ([]api.Disc, api.Errno) {
	posts, e := lawn.Posts(l)
	if e != api.OK {
		return nil, e
	}
	if e := checkBalls(a, b); e != api.OK {
		return nil, e
	}
	return posts, api.OK
}

// checkBalls returns the error of two balls.
func checkBalls(a, b api.Disc) api.Errno {
	for _, d := range [...]api.Disc{a, b} {
		if _, e := turf.Ring(d); e != api.OK || d.R > api.MaxBall {
			return api.ErrArg
		}
	}
	if how, _ := turf.Touch(a, b); how < 0 {
		return api.ErrArg
	}
	return api.OK
}
