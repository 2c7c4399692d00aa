package tactics

import "roquet/api"

// nowhere is the cell in a key of a ball that is still to be put.
const nowhere = -1

// key is a scene as a key of a map: At and Hoop, and for each ball its cell, counted from 1 (0 is no ball), and 1 if it is dead.
type key [2 + 2*api.MaxPieces]int

// table is a board with the values that were found on it so far.
type table struct {
	board  api.Board
	values map[key]api.Chance
}

// newTable returns a table without values. A board that is not valid has none: it ends the search.
func newTable(b api.Board) *table {
	if e := CheckBoard(b); e != api.OK {
		panic(e)
	}
	return &table{board: b, values: map[key]api.Chance{}}
}

// search returns what find returns with a new table, and ErrArg if there is none.
func search(b api.Board, find func(t *table) api.Errno) (e api.Errno) {
	defer func() {
		if recover() != nil {
			e = api.ErrArg
		}
	}()
	return find(newTable(b))
}

// searchFrom searches from a scene, if it is valid.
func searchFrom(b api.Board, s api.Scene, find func(t *table) api.Errno) api.Errno {
	return search(b, func(t *table) api.Errno {
		if e := fits(b, s); e != api.OK {
			return e
		}
		return find(t)
	})
}

// Value returns the value of a scene.
func Value(b api.Board, s api.Scene) (v api.Chance, e api.Errno) {
	e = searchFrom(b, s, func(t *table) api.Errno {
		v = t.value(s)
		return api.OK
	})
	return v, e
}

// Worth returns the value of an act.
func Worth(b api.Board, s api.Scene, a api.Act) (v api.Chance, e api.Errno) {
	e = searchFrom(b, s, func(t *table) api.Errno {
		if !isAct(b, s, a) {
			return api.ErrState
		}
		v = t.worth(s, a)
		return api.OK
	})
	return v, e
}

// value returns the value of a scene.
func (t *table) value(s api.Scene) api.Chance {
	return t.keep(keyOf(s), func() (v api.Chance) {
		for aim := range aims(t.board, s) {
			v = greater(v, times(t.future(s, aim), chance(t.board, s, aim)))
		}
		return v
	})
}

// future returns the greatest bounds of what comes of an aim that comes true, wherever the balls are put. The bounds of its act with its chance are as great as may be, too, as a greater factor never makes a rounded product less.
func (t *table) future(s api.Scene, aim api.Act) api.Chance {
	return t.keep(aimKey(s, aim), func() (v api.Chance) {
		for a := range puts(t.board, aim) {
			v = greater(v, t.next(s, a))
		}
		return v
	})
}

// worth returns the value of an act.
func (t *table) worth(s api.Scene, a api.Act) api.Chance {
	return times(t.next(s, a), chance(t.board, s, a))
}

// next returns what comes of an act that comes true: the hoop, if it was run, and the value of the scene after it.
func (t *table) next(s api.Scene, a api.Act) api.Chance {
	v := t.value(after(t.board, s, a))
	if a.Kind == api.ActRun {
		v.Lo += api.Million
		v.Hi += api.Million
	}
	return v
}

// keep returns what the table has for a key; if it has nothing, it is found first.
func (t *table) keep(k key, find func() api.Chance) api.Chance {
	if v, ok := t.values[k]; ok {
		return v
	}
	v := find()
	t.values[k] = v
	return v
}

// keyOf returns the key of a scene.
func keyOf(s api.Scene) key {
	k := key{s.At, s.Hoop}
	for i, c := range s.Balls {
		k[2+2*i] = c + 1
		if s.Dead[i] {
			k[3+2*i] = 1
		}
	}
	return k
}

// aimKey returns the key of what comes of an aim: that of its scene, without the cells that the striker's ball and a ball that is hit leave.
func aimKey(s api.Scene, aim api.Act) key {
	k := keyOf(s)
	k[0] = nowhere
	if aim.Kind == api.ActRoquet {
		k[2+2*aim.Ball] = nowhere
	}
	return k
}

// greater returns the greater one of both lower bounds, and of both upper ones.
func greater(v, w api.Chance) api.Chance {
	return api.Chance{Lo: max(v.Lo, w.Lo), Hi: max(v.Hi, w.Hi)}
}
