package mistake_test

import (
	"roquet/api"
	"roquet/game"
)

// modelLimits is the chapter's table: a row for each code, and a column for each kind from 1 on.
var modelLimits = [4][3]int{{3, 1, 2}, {3, 1, 2}, {1, 1, 1}, {0, 0, 0}}

// inTurn reports whether a position is in a turn.
func inTurn(g api.Game) bool { return g.Phase == 1 || g.Phase == 2 || g.Phase == 3 }

// inPlay reports whether x is a ball in play, whatever x is.
func inPlay(g api.Game, x int) bool { return x >= 0 && x <= 3 && g.In[x] }

// modelValid reports whether a deed is valid.
func modelValid(d api.Deed) bool {
	return d.Kind == 1 || d.Kind == 3 || d.Kind == 2 && (d.Wrong == 1 || d.Wrong == 2 || d.Wrong == 3)
}

// modelAsIf returns the position as if, and whether the wrong stroke is possible.
func modelAsIf(g api.Game, kind, ball int) (api.Game, bool) {
	if !inPlay(g, ball) {
		return api.Game{}, false
	}
	as := g
	switch kind {
	case 1:
		partners := [4]int{2, 3, 0, 1}
		if !inTurn(g) || partners[g.Ball] != ball || g.Phase == 2 && g.Taken == ball {
			return api.Game{}, false
		}
		as.Ball = ball
		as.Began = g.Points[ball]
		as.Dead = [4]bool{}
	case 2:
		if g.Phase != 0 || ball%2 == g.Side {
			return api.Game{}, false
		}
		as.Side = ball % 2
		as.Ball = ball
		as.Phase = 3
		as.Began = g.Points[ball]
		as.Last = -1
	case 3:
		if g.Phase != 1 && g.Phase != 3 || ball == g.Ball {
			return api.Game{}, false
		}
		as.Phase = 2
		as.Taken = ball
		as.Dead[ball] = false
	}
	return as, true
}

// model takes deeds as the chapter says, and notes for each of them whether it stands.
type model struct {
	g       api.Game
	deeds   []api.Deed
	before  []api.Game
	stands  []bool
	rulings []api.Ruling
}

// take takes a deed, or returns its error.
func (m *model) take(d api.Deed) api.Errno {
	if !modelValid(d) {
		return api.ErrArg
	}
	before, behind, e := m.g, m.g, api.OK
	switch d.Kind {
	case 1:
		behind, e = game.Play(m.g, d.Move)
	case 2:
		as, ok := modelAsIf(m.g, d.Wrong, d.Ball)
		if !ok {
			return api.ErrState
		}
		behind, e = game.Play(as, api.Move{Kind: 2, Events: d.Events})
	case 3:
		behind, e = m.claim(d.About)
	}
	if e != api.OK {
		return e
	}
	m.deeds, m.before, m.stands = append(m.deeds, d), append(m.before, before), append(m.stands, d.Kind != 3)
	m.g = behind
	return api.OK
}

// claim rules on a claim, and returns the position behind it.
func (m *model) claim(about int) (api.Game, api.Errno) {
	if about < 0 || about >= len(m.deeds) || m.deeds[about].Kind != 2 {
		return api.Game{}, api.ErrNone
	}
	if !m.stands[about] {
		return api.Game{}, api.ErrOld
	}
	for _, r := range m.rulings {
		if r.Deed == about {
			return api.Game{}, api.ErrOld
		}
	}
	count, kind := 0, m.deeds[about].Wrong
	for i := about + 1; i < len(m.deeds); i++ {
		d := m.deeds[i]
		if m.stands[i] && (d.Kind == 2 || d.Kind == 1 && d.Move.Kind == 2) {
			count++
		}
	}
	most := modelLimits[m.g.Code][kind-1]
	m.rulings = append(m.rulings, api.Ruling{Claim: len(m.deeds), Deed: about, Wrong: kind, Count: count, Most: most, InTime: count <= most})
	if count > most {
		return m.g, api.OK
	}
	for i := about; i < len(m.deeds); i++ {
		m.stands[i] = false
	}
	if kind == 2 {
		return m.before[about], api.OK
	}
	return game.Play(m.before[about], api.Move{Kind: 3})
}

// outcome returns what the deeds come to.
func (m *model) outcome() api.Outcome {
	o := api.Outcome{Game: m.g, Rulings: m.rulings}
	for i, stands := range m.stands {
		if stands {
			o.Stands = append(o.Stands, i)
		}
	}
	return o
}

// clean returns the clean record.
func (m *model) clean() []api.Deed {
	var l []api.Deed
	for i, d := range m.deeds {
		switch {
		case m.stands[i] && d.Kind == 1:
			l = append(l, api.Deed{Kind: 1, Move: d.Move})
		case m.stands[i] && d.Kind == 2:
			l = append(l, api.Deed{Kind: 2, Wrong: d.Wrong, Ball: d.Ball, Events: d.Events})
		case m.passes(i):
			l = append(l, api.Deed{Kind: 1, Move: api.Move{Kind: 3}})
		}
	}
	return l
}

// passes reports whether a deed was rectified by the end of its turn, and was not cancelled itself by a later claim about an earlier one.
func (m *model) passes(i int) bool {
	passes := false
	for _, r := range m.rulings {
		if r.InTime && r.Deed == i {
			passes = r.Wrong != 2
		}
		if r.InTime && r.Deed < i {
			passes = false
		}
	}
	return passes
}

// modelReplay takes the deeds up to the first one that is an error.
func modelReplay(g api.Game, l []api.Deed) (*model, int, api.Errno) {
	m := &model{g: g}
	for i, d := range l {
		if e := m.take(d); e != api.OK {
			return m, i, e
		}
	}
	return m, len(l), api.OK
}
