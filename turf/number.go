package turf

import (
	"cmp"
	"math/bits"

	"roquet/api"
)

const (
	maxParted = 1 << 60 // the amount of a number that is parted, and of what it is parted by
	maxRooted = 1 << 62 // a number whose root is taken
)

// Divide parts a number.
func Divide(n, d int64) (api.Part, api.Errno) {
	if n < -maxParted || n > maxParted || d < 1 || d > maxParted {
		return api.Part{}, api.ErrRange
	}
	return part(n, d), api.OK
}

// part parts n by d, which have to be in the range of Divide.
func part(n, d int64) api.Part {
	// Go's quotient is rounded towards 0, so its rest may be up to d away from 0 on either side.
	p := api.Part{Whole: n / d, Rest: n % d}
	switch {
	case 2*p.Rest >= d:
		return api.Part{Whole: p.Whole + 1, Rest: p.Rest - d}
	case 2*p.Rest < -d:
		return api.Part{Whole: p.Whole - 1, Rest: p.Rest + d}
	}
	return p
}

// Root returns the root of a number.
func Root(n int64) (int64, api.Errno) {
	if n < 0 || n > maxRooted {
		return 0, api.ErrRange
	}
	return root(n), api.OK
}

// root takes the root of n, which has to be in the range of Root: the quotient of n by itself.
func root(n int64) int64 {
	// The power of 2 is not less than the root, and its square still fits a word.
	half := (bits.Len64(uint64(max(n-1, 0))) + 1) / 2
	last := quotientBy(1<<half, n)
	next := nearer(last, n)
	for next != last {
		last, next = next, nearer(next, n)
	}
	return last.Whole
}

// quotientBy returns w as a quotient of n by w, with what w w leaves of n.
func quotientBy(w, n int64) api.Part {
	return api.Part{Whole: w, Rest: n - w*w}
}

// nearer does Newton's step, which never goes below the root when it comes from above; a quotient that is not too great stays.
func nearer(p api.Part, n int64) api.Part {
	if p.Rest >= 0 {
		return p
	}
	return quotientBy((p.Whole+n/p.Whole)/2, n)
}

// Wide compares two products.
func Wide(a, b, c, d int64) (int, api.Errno) {
	for _, n := range [...]int64{a, b, c, d} {
		if n < 0 || n > api.MaxWide {
			return 0, api.ErrRange
		}
	}
	return compareWide(product(a, b), product(c, d)), api.OK
}

// product returns both halves of a b, the upper one first; a and b must not be below 0.
func product(a, b int64) [2]uint64 {
	hi, lo := bits.Mul64(uint64(a), uint64(b))
	return [2]uint64{hi, lo}
}

// compareWide compares two products.
func compareWide(p, q [2]uint64) int {
	if p == q {
		return 0
	}
	if p[0] == q[0] {
		return cmp.Compare(p[1], q[1])
	}
	return cmp.Compare(p[0], q[0])
}
