package contact

import (
	"iter"

	"roquet/api"
)

// together returns balls with their motions, or the error of these lists.
func together(l []api.Ball, s []api.Motion) ([]roller, api.Errno) {
	if len(l) > api.MaxTogether {
		return nil, api.ErrMany
	}
	if len(s) != len(l) {
		return nil, api.ErrEqual
	}
	all := make([]roller, len(l))
	for i := range l {
		all[i] = roller{l[i], s[i]}
	}
	return all, checkRollers(all...)
}

// Total returns the sum of momenta.
func Total(l []api.Ball, s []api.Motion) (api.Point, api.Errno) {
	all, e := together(l, s)
	if e != api.OK {
		return api.Point{}, e
	}
	var sum api.Point
	for _, r := range all {
		sum = plus(sum, r.M)
	}
	return sum, api.OK
}

// Settle lets all balls bounce off each other that are in contact.
func Settle(l []api.Ball, s []api.Motion, x api.Bounce) ([]api.Motion, [][2]int, api.Errno) {
	all, e := together(l, s)
	if e != api.OK {
		return nil, nil, e
	}
	if e := CheckBounce(x); e != api.OK {
		return nil, nil, e
	}
	var met [][2]int
	for i, k := range pairs(len(all)) {
		one, other, e := bounced(all[i], all[k], x)
		switch e {
		case api.OK:
			all[i], all[k] = one, other
			met = append(met, [2]int{i, k})
		case api.ErrOver:
			return nil, nil, e
		}
	}
	return motions(all), met, api.OK
}

// pairs yields both numbers of each pair of n balls, in lexicographic order.
func pairs(n int) iter.Seq2[int, int] {
	return func(yield func(int, int) bool) {
		for i := range n {
			for k := i + 1; k < n; k++ {
				if !yield(i, k) {
					return
				}
			}
		}
	}
}

// motions returns the motions of balls.
func motions(l []roller) []api.Motion {
	s := make([]api.Motion, len(l))
	for i, r := range l {
		s[i] = r.Motion
	}
	return s
}
