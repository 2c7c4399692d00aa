package referee

import (
	"slices"

	"roquet/api"
)

// sight is what was seen of a stroke: its marks by their kinds, those of balls that moved by whether it is the ball that is played, and how long a mallet may stay on it.
type sight struct {
	kinds  [api.MarkMoved + 1][]api.Mark
	own    []api.Mark
	others []api.Mark
	limit  int64
}

// sightOf returns what valid marks show.
func sightOf(l []api.Mark, ball int, limit int64) sight {
	s := sight{limit: limit}
	for _, m := range l {
		s.kinds[m.Kind] = append(s.kinds[m.Kind], m)
		if m.Kind != api.MarkMoved {
			continue
		}
		if m.Ball == ball {
			s.own = append(s.own, m)
		} else {
			s.others = append(s.others, m)
		}
	}
	return s
}

// sign is a fact, and what tells whether it was seen.
type sign struct {
	fact  string
	shown func(sight) bool
}

// signs are all facts of marks, in order.
func signs() []sign {
	return []sign{
		{"struck", seen(api.MarkMallet, 1)},
		{"double", seen(api.MarkMallet, 2)},
		{"push", sight.isPushed},
		{"crush", sight.isCrushed},
		{"other", seen(api.MarkOther, 1)},
		{"wire", seen(api.MarkPost, 1)},
		{"body", seen(api.MarkBody, 1)},
		{"moved", func(s sight) bool { return len(s.own) > 0 }},
		{"shook", func(s sight) bool { return len(s.others) > 0 }},
		{"late", sight.isLate},
	}
}

// seen returns what tells whether there are so many marks of a kind.
func seen(kind, count int) func(sight) bool {
	return func(s sight) bool { return len(s.kinds[kind]) >= count }
}

// isPushed reports whether a mallet stayed on the ball for too long.
func (s sight) isPushed() bool {
	return slices.ContainsFunc(s.kinds[api.MarkMallet], func(m api.Mark) bool { return m.To-m.From > s.limit })
}

// isCrushed reports whether a mallet was on the ball while a post held it.
func (s sight) isCrushed() bool {
	return slices.ContainsFunc(s.kinds[api.MarkMallet], func(m api.Mark) bool {
		return slices.ContainsFunc(s.kinds[api.MarkHeld], func(h api.Mark) bool { return m.From <= h.To && h.From <= m.To })
	})
}

// isLate reports whether a mallet came again, later than at first, and not before another ball moved.
func (s sight) isLate() bool {
	mallets := s.kinds[api.MarkMallet]
	return slices.ContainsFunc(mallets, func(m api.Mark) bool {
		return m.From > mallets[0].From &&
			slices.ContainsFunc(s.others, func(o api.Mark) bool { return o.From <= m.From })
	})
}

// Facts returns the facts of marks.
func Facts(l []api.Mark, ball int, limit int64) ([]string, api.Errno) {
	switch {
	case len(l) > api.MaxMarks:
		return nil, api.ErrMany
	case slices.ContainsFunc(l, isNoMark):
		return nil, api.ErrArg
	case !isBall(ball) || !between(limit, 0, api.MaxTicks):
		return nil, api.ErrRange
	}
	s := sightOf(l, ball, limit)
	var facts []string
	for _, x := range signs() {
		if x.shown(s) {
			facts = append(facts, x.fact)
		}
	}
	return facts, api.OK
}

// Judge reports whether a fact follows from marks, and why.
func Judge(b api.Book, l []api.Mark, ball int, limit int64, fact string) (bool, []int, api.Errno) {
	if e := CheckBook(b); e != api.OK {
		return false, nil, e
	}
	given, e := Facts(l, ball, limit)
	if e != api.OK {
		return false, nil, e
	}
	if !isName(fact) {
		return false, nil, api.ErrArg
	}
	way, follows := deskWith(b).why(given, fact)
	return follows, way, api.OK
}

// isNoMark reports whether a mark is not valid.
func isNoMark(m api.Mark) bool {
	return !between(m.Kind, api.MarkMallet, api.MarkMoved) || !isBall(m.Ball) ||
		!between(m.From, 0, m.To) || m.To > api.MaxTicks
}

// isBall reports whether there is a ball with this number.
func isBall(ball int) bool { return between(ball, 0, api.Balls-1) }
