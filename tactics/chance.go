package tactics

import (
	"slices"

	"roquet/api"
)

// rounding is how each of the two bounds is rounded.
type rounding struct {
	lo, hi func(n, d int64) int64
}

// outward returns the rounding by which what lay between two bounds goes on to lie between them.
func outward() rounding {
	return rounding{lo: down, hi: up}
}

// Chance returns the chance of a record.
func Chance(hits, tries, doubt int64) (api.Chance, api.Errno) {
	if !between(tries, 0, api.MaxTries) || !between(hits, 0, tries) || !between(doubt, 1, api.MaxDoubt) {
		return api.Chance{}, api.ErrRange
	}
	r := outward()
	return api.Chance{
		Lo: r.lo(hits*api.Million, tries+doubt),
		Hi: r.hi((hits+doubt)*api.Million, tries+doubt),
	}, api.OK
}

// All returns the chance that all come true.
func All(l []api.Chance) (api.Chance, api.Errno) {
	if e := checkChances(l); e != api.OK {
		return api.Chance{}, e
	}
	return all(l), api.OK
}

// Any returns the chance that at least one comes true.
func Any(l []api.Chance) (api.Chance, api.Errno) {
	if e := checkChances(l); e != api.OK {
		return api.Chance{}, e
	}
	var missed []api.Chance
	for _, c := range l {
		missed = append(missed, opposite(c))
	}
	return opposite(all(missed)), api.OK
}

// checkChances reports whether chances may be taken together.
func checkChances(l []api.Chance) api.Errno {
	if len(l) > api.MaxList {
		return api.ErrMany
	}
	if !areBounds(l) {
		return api.ErrArg
	}
	return api.OK
}

// all returns the bounds with which all of these come true.
func all(l []api.Chance) api.Chance {
	product := api.Chance{Lo: api.Million, Hi: api.Million}
	for _, c := range l {
		product = times(product, c)
	}
	return product
}

// times returns a value, or a chance, that counts with a chance.
func times(v, c api.Chance) api.Chance {
	r := outward()
	return api.Chance{Lo: r.lo(v.Lo*c.Lo, api.Million), Hi: r.hi(v.Hi*c.Hi, api.Million)}
}

// opposite returns the bounds with which something does not come true.
func opposite(c api.Chance) api.Chance {
	return api.Chance{Lo: api.Million - c.Hi, Hi: api.Million - c.Lo}
}

// areBounds reports whether all of these are valid.
func areBounds(l []api.Chance) bool {
	return !slices.ContainsFunc(l, func(c api.Chance) bool {
		return !between(c.Lo, 0, c.Hi) || c.Hi > api.Million
	})
}

// down returns n divided by d, rounded down; neither is below 0.
func down(n, d int64) int64 {
	return n / d
}

// up returns n divided by d, rounded up; neither is below 0.
func up(n, d int64) int64 {
	return (n + d - 1) / d
}
