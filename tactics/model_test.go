package tactics_test

import (
	"fmt"
	"math/big"

	"roquet/api"
)

// model is a second version of the chapter's definitions, which follows them word by word.
type model struct {
	b      api.Board
	values map[string]api.Chance
}

// newModel returns a model of a board.
func newModel(b api.Board) model { return model{b, map[string]api.Chance{}} }

// roundDown returns the greatest whole number that is not greater than n / d.
func roundDown(n, d int64) int64 {
	return new(big.Int).Div(big.NewInt(n), big.NewInt(d)).Int64()
}

// roundUp returns the least whole number that is not less than n / d.
func roundUp(n, d int64) int64 { return -roundDown(-n, d) }

// modelAll returns the bounds of all of some chances.
func modelAll(l []api.Chance) api.Chance {
	v := sure(whole)
	for _, c := range l {
		v = bounds(roundDown(v.Lo*c.Lo, whole), roundUp(v.Hi*c.Hi, whole))
	}
	return v
}

// modelAny returns the bounds of at least one of some chances.
func modelAny(l []api.Chance) api.Chance {
	lo, hi := int64(whole), int64(whole) // that none comes true, whose upper bound is that with the lower bounds
	for _, c := range l {
		hi = roundUp(hi*(whole-c.Lo), whole)
		lo = roundDown(lo*(whole-c.Hi), whole)
	}
	return bounds(whole-hi, whole-lo)
}

// distance returns the distance of two cells.
func (m model) distance(c, d int) int {
	column, row := c%m.b.Wide-d%m.b.Wide, c/m.b.Wide-d/m.b.Wide
	for n := 0; ; n++ {
		if -n <= column && column <= n && -n <= row && row <= n {
			return n
		}
	}
}

// acts returns the acts of a scene.
func (m model) acts(s api.Scene) (l []api.Act) {
	if s.Hoop == len(m.b.Hoops) {
		return nil
	}
	l = append(l, runAct())
	for ball := range s.Balls {
		for send := 0; send < m.b.Wide*m.b.Long && !s.Dead[ball]; send++ {
			for to := 0; to < m.b.Wide*m.b.Long; to++ {
				l = append(l, roquet(ball, send, to))
			}
		}
	}
	return l
}

// after returns the scene after an act.
func (m model) after(s api.Scene, a api.Act) api.Scene {
	next := api.Scene{At: a.To, Hoop: s.Hoop}
	for i := range s.Balls {
		if a.Kind == api.ActRoquet && i == a.Ball {
			next.Balls, next.Dead = append(next.Balls, a.Send), append(next.Dead, true)
		} else {
			next.Balls, next.Dead = append(next.Balls, s.Balls[i]), append(next.Dead, s.Dead[i] && a.Kind == api.ActRoquet)
		}
	}
	if a.Kind == api.ActRun {
		next.At, next.Hoop = m.b.Hoops[s.Hoop], s.Hoop+1
	}
	return next
}

// worth returns the value of an act.
func (m model) worth(s api.Scene, a api.Act) api.Chance {
	v := m.value(m.after(s, a))
	if a.Kind == api.ActRun {
		c := m.b.Run[m.distance(s.At, m.b.Hoops[s.Hoop])]
		return bounds(roundDown(c.Lo*(v.Lo+whole), whole), roundUp(c.Hi*(v.Hi+whole), whole))
	}
	c := m.b.Hit[m.distance(s.At, s.Balls[a.Ball])]
	return bounds(roundDown(c.Lo*v.Lo, whole), roundUp(c.Hi*v.Hi, whole))
}

// value returns the value of a scene.
func (m model) value(s api.Scene) (v api.Chance) {
	name := fmt.Sprint(s)
	if v, ok := m.values[name]; ok {
		return v
	}
	for _, a := range m.acts(s) {
		w := m.worth(s, a)
		v = bounds(max(v.Lo, w.Lo), max(v.Hi, w.Hi))
	}
	m.values[name] = v
	return v
}

// best returns the best act of a scene, and its value.
func (m model) best(s api.Scene) (best api.Act, v api.Chance) {
	for i, a := range m.acts(s) {
		if w := m.worth(s, a); i == 0 || w.Lo > v.Lo {
			best, v = a, w
		}
	}
	return best, v
}

// plan returns the best acts one after another.
func (m model) plan(s api.Scene) (l []api.Act) {
	for len(m.acts(s)) > 0 {
		a, _ := m.best(s)
		l, s = append(l, a), m.after(s, a)
	}
	return l
}

// leave returns the best leave, and its value.
func (m model) leave(l []api.Scene) (best int, v api.Chance) {
	for i, s := range l {
		if w := m.value(s); i == 0 || w.Hi < v.Hi {
			best, v = i, w
		}
	}
	return best, v
}
