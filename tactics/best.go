package tactics

import (
	"slices"

	"roquet/api"
)

// Best returns the best act.
func Best(b api.Board, s api.Scene) (a api.Act, v api.Chance, e api.Errno) {
	e = searchFrom(b, s, func(t *table) api.Errno {
		if a = t.best(s); a.Kind != api.ActStop {
			v = t.worth(s, a)
		}
		return api.OK
	})
	return a, v, e
}

// Plan returns the best acts one after another.
func Plan(b api.Board, s api.Scene) (l []api.Act, e api.Errno) {
	e = searchFrom(b, s, func(t *table) api.Errno {
		l = t.plan(s)
		return api.OK
	})
	return l, e
}

// Leave returns the best leave.
func Leave(b api.Board, l []api.Scene) (i int, v api.Chance, e api.Errno) {
	e = search(b, func(t *table) api.Errno {
		if e := checkLeaves(b, l); e != api.OK {
			return e
		}
		i = first(l, func(s api.Scene) int64 { return -t.value(s).Hi })
		v = t.value(l[i])
		return api.OK
	})
	return i, v, e
}

// checkLeaves reports whether scenes of a board may be compared.
func checkLeaves(b api.Board, l []api.Scene) api.Errno {
	if len(l) == 0 {
		return api.ErrNone
	}
	if len(l) > api.MaxLeaves {
		return api.ErrMany
	}
	for _, s := range l {
		if e := fits(b, s); e != api.OK {
			return e
		}
	}
	return api.OK
}

// best returns the best act of a scene.
func (t *table) best(s api.Scene) api.Act {
	l := slices.Collect(acts(t.board, s))
	if len(l) == 0 {
		return api.Act{Kind: api.ActStop}
	}
	return l[first(l, func(a api.Act) int64 { return t.worth(s, a).Lo })]
}

// plan returns the best acts from a scene on, until there is none.
func (t *table) plan(s api.Scene) (l []api.Act) {
	for a := t.best(s); a.Kind != api.ActStop; a = t.best(s) {
		l = append(l, a)
		s = after(t.board, s, a)
	}
	return l
}

// first returns the index of the best one of some things: the first one with the greatest mark.
func first[T any](l []T, mark func(T) int64) (best int) {
	var most int64
	for i, x := range l {
		if m := mark(x); i == 0 || m > most {
			best, most = i, m
		}
	}
	return best
}
