package tactics

import (
	"iter"
	"slices"

	"roquet/api"
)

// Acts returns the acts of a scene.
func Acts(b api.Board, s api.Scene) ([]api.Act, api.Errno) {
	if e := CheckScene(b, s); e != api.OK {
		return nil, e
	}
	return slices.Collect(acts(b, s)), api.OK
}

// After returns the scene after an act.
func After(b api.Board, s api.Scene, a api.Act) (api.Scene, api.Errno) {
	if e := CheckScene(b, s); e != api.OK {
		return api.Scene{}, e
	}
	if !isAct(b, s, a) {
		return api.Scene{}, api.ErrState
	}
	return after(b, s, a), api.OK
}

// acts yields the acts of a scene, in order.
func acts(b api.Board, s api.Scene) iter.Seq[api.Act] {
	return func(yield func(api.Act) bool) {
		for aim := range aims(b, s) {
			for a := range puts(b, aim) {
				if !yield(a) {
					return
				}
			}
		}
	}
}

// aims yields what may be tried, before it is said where the balls go.
func aims(b api.Board, s api.Scene) iter.Seq[api.Act] {
	return func(yield func(api.Act) bool) {
		if s.Hoop == len(b.Hoops) || !yield(api.Act{Kind: api.ActRun}) {
			return
		}
		for i, dead := range s.Dead {
			if !dead && !yield(api.Act{Kind: api.ActRoquet, Ball: i}) {
				return
			}
		}
	}
}

// puts yields the acts with an aim: one for each two cells to which the balls may go, if one is hit.
func puts(b api.Board, aim api.Act) iter.Seq[api.Act] {
	return func(yield func(api.Act) bool) {
		if aim.Kind == api.ActRun {
			yield(aim)
			return
		}
		for send := range cells(b) {
			for to := range cells(b) {
				if !yield(api.Act{Kind: aim.Kind, Ball: aim.Ball, Send: send, To: to}) {
					return
				}
			}
		}
	}
}

// isAct reports whether a scene has such an act.
func isAct(b api.Board, s api.Scene, a api.Act) bool {
	for x := range acts(b, s) {
		if x == a {
			return true
		}
	}
	return false
}

// chance returns the chance of an act.
func chance(b api.Board, s api.Scene, a api.Act) api.Chance {
	if a.Kind == api.ActRun {
		return b.Run[distance(b, s.At, b.Hoops[s.Hoop])]
	}
	return b.Hit[distance(b, s.At, s.Balls[a.Ball])]
}

// after returns the scene after an act that comes true.
func after(b api.Board, s api.Scene, a api.Act) api.Scene {
	s.Balls, s.Dead = slices.Clone(s.Balls), slices.Clone(s.Dead)
	if a.Kind == api.ActRun {
		s.At = b.Hoops[s.Hoop]
		s.Hoop++
		clear(s.Dead)
		return s
	}
	s.At = a.To
	s.Balls[a.Ball] = a.Send
	s.Dead[a.Ball] = true
	return s
}
