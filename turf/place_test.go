package turf_test

import (
	"slices"
	"testing"

	"roquet/api"
	"roquet/turf"
)

// P1.1: places and discs.
func TestCheck(t *testing.T) {
	for _, p := range []api.Point{at(0, 0), at(far, far), at(-far, -far), at(far, -far), at(-1, 1)} {
		if e := turf.Check(p); e != api.OK {
			t.Errorf("Check(%v): error %d", p, e)
		}
		for _, r := range []int64{1, 2, api.MaxRadius} {
			if e := turf.CheckDisc(api.Disc{At: p, R: r}); e != api.OK {
				t.Errorf("CheckDisc of %v with %d: error %d", p, r, e)
			}
		}
	}
	for _, p := range badPlaces() {
		if e := turf.Check(p); e != api.ErrArg {
			t.Errorf("Check(%v): error %d", p, e)
		}
	}
	for _, d := range badDiscs() {
		if e := turf.CheckDisc(d); e != api.ErrArg {
			t.Errorf("CheckDisc(%v): error %d", d, e)
		}
	}
}

// call is a function of turf: how many places (or ways) and discs it takes, and a call of it that tells whether all its results but the error are zero.
type call struct {
	name   string
	places int
	discs  int
	do     func(p []api.Point, d []api.Disc, wrong bool) (bool, api.Errno)
}

// calls are all calls with places, ways or discs; if wrong is set, their numbers are out of their ranges.
func calls() []call {
	// number returns n, or a number that is in no range.
	number := func(n int64, wrong bool) int64 {
		if wrong {
			return -1
		}
		return n
	}
	return []call{
		{"Square", 2, 0, func(p []api.Point, d []api.Disc, wrong bool) (bool, api.Errno) {
			n, e := turf.Square(p[0], p[1])
			return n == 0, e
		}},
		{"Side", 3, 0, func(p []api.Point, d []api.Disc, wrong bool) (bool, api.Errno) {
			n, e := turf.Side(p[0], p[1], p[2])
			return n == 0, e
		}},
		{"Lies", 3, 0, func(p []api.Point, d []api.Disc, wrong bool) (bool, api.Errno) {
			n, e := turf.Lies(p[0], p[1], p[2], number(5, wrong))
			return n == 0, e
		}},
		{"Cuts", 2, 1, func(p []api.Point, d []api.Disc, wrong bool) (bool, api.Errno) {
			ok, e := turf.Cuts(p[0], p[1], d[0])
			return !ok, e
		}},
		{"Touch", 0, 2, func(p []api.Point, d []api.Disc, wrong bool) (bool, api.Errno) {
			n, e := turf.Touch(d[0], d[1])
			return n == 0, e
		}},
		{"Ring", 0, 1, func(p []api.Point, d []api.Disc, wrong bool) (bool, api.Errno) {
			l, e := turf.Ring(d[0])
			return len(l) == 0, e
		}},
		{"Passes", 2, 1, func(p []api.Point, d []api.Disc, wrong bool) (bool, api.Errno) {
			ok, e := turf.Passes(p[0], p[1], d[0])
			return !ok, e
		}},
		{"First", 4, 0, func(p []api.Point, d []api.Disc, wrong bool) (bool, api.Errno) {
			n, e := turf.First(p[0], p[1], p[2], p[3], number(5, wrong), number(8, wrong))
			return n == 0, e
		}},
		{"Towards", 2, 0, func(p []api.Point, d []api.Disc, wrong bool) (bool, api.Errno) {
			q, e := turf.Towards(p[0], p[1], number(5, wrong))
			return q == api.Point{}, e
		}},
	}
}

// All functions: a place, way or disc that is not valid is ErrArg, wherever it stands, before all other errors, and the other results are zero.
func TestArgumentsFirst(t *testing.T) {
	try := func(c call, what string, p []api.Point, d []api.Disc) {
		for _, wrong := range []bool{false, true} {
			if zero, e := c.do(p, d, wrong); !zero || e != api.ErrArg {
				t.Errorf("%s with the %s of %v, %v: zero is %v, error %d", c.name, what, p, d, zero, e)
			}
		}
	}
	for _, c := range calls() {
		for _, bad := range badPlaces() {
			if c.places > 0 { // ErrZero of Towards does not come first
				try(c, "places", slices.Repeat([]api.Point{bad}, c.places), []api.Disc{disc(0, 0, 9)})
			}
		}
		for k := range c.places {
			for _, bad := range badPlaces() {
				p, d := make([]api.Point, c.places), []api.Disc{disc(0, 0, 9), disc(1, 0, 9)}
				p[k] = bad
				try(c, "place", p, d)
				if c.discs > 0 { // nor does ErrOver of a ring
					d[0] = disc(far, far, 9)
					try(c, "place", p, d)
				}
			}
		}
		for k := range c.discs {
			for _, bad := range badDiscs() {
				p, d := make([]api.Point, c.places), []api.Disc{disc(0, 0, 9), disc(1, 0, 9)}
				d[k] = bad
				try(c, "disc", p, d)
			}
		}
	}
}

// All functions: places at the limit are valid.
func TestLimitsOfPlaces(t *testing.T) {
	for _, c := range calls() {
		p := []api.Point{at(far, far), at(-far, -far), at(-far, far), at(far, -far)}
		d := []api.Disc{disc(far-api.MaxRadius, 0, api.MaxRadius), disc(0, far-1, 1)}
		if _, e := c.do(p, d, false); e != api.OK && e != api.ErrNone {
			t.Errorf("%s at the limits: error %d", c.name, e)
		}
	}
}
