package mistake

import (
	"errors"
	"slices"

	"roquet/api"
	"roquet/game"
)

// step is a deed that counts, and the position before it.
type step struct {
	number int // of the deed; of a pass that ends a turn for a claim: that of the claim
	deed   deed
	before api.Game
}

// line is what the deeds of a record come to that were taken so far.
type line struct {
	game    api.Game
	taken   []deed // all deeds so far, with those that do not stand any more
	steps   []step // by increasing numbers
	rulings []api.Ruling
}

// follow takes the deeds of a record up to the first one that is refused, and returns how many these are, and the error of that one.
func follow(g api.Game, l []api.Deed) (*line, int, api.Errno) {
	if e := game.Check(g); e != api.OK {
		return &line{}, 0, e
	}
	if len(l) > api.MaxDeeds {
		return &line{}, 0, api.ErrMany
	}
	n := &line{game: g}
	var r refusal
	if errors.As(n.takeAll(l), &r) {
		return n, r.number, r.code
	}
	return n, len(l), api.OK
}

// takeAll takes deeds up to the first one that is refused.
func (n *line) takeAll(l []api.Deed) error {
	for _, d := range l {
		if err := n.take(d); err != nil {
			return err
		}
	}
	return nil
}

// take takes the next deed of a record.
func (n *line) take(d api.Deed) error {
	x := deedOf(d)
	if x == nil {
		return n.refuse(api.ErrArg)
	}
	if err := x.do(n); err != nil {
		return err
	}
	n.taken = append(n.taken, x)
	return nil
}

// refuse returns the error of the next deed.
func (n *line) refuse(e api.Errno) error {
	return refusal{number: len(n.taken), code: e}
}

// add adds a step that leads to a position.
func (n *line) add(d deed, g api.Game) {
	n.steps = append(n.steps, step{number: len(n.taken), deed: d, before: n.game})
	n.game = g
}

// cut takes back a step and all behind it. What is added next shares no memory with what was taken back.
func (n *line) cut(at int) {
	n.game = n.steps[at].before
	n.steps = n.steps[:at:at]
}

// disputed returns the wrong stroke that a claim is about, and where its step is.
func (n *line) disputed(about int) (int, wrong, api.Errno) {
	if !between(about, 0, len(n.taken)-1) {
		return 0, wrong{}, api.ErrNone
	}
	w, ok := n.taken[about].(wrong)
	if !ok {
		return 0, wrong{}, api.ErrNone
	}
	at := slices.IndexFunc(n.steps, func(s step) bool { return s.number == about })
	if at < 0 || slices.ContainsFunc(n.rulings, func(r api.Ruling) bool { return r.Deed == about }) {
		return 0, wrong{}, api.ErrOld
	}
	return at, w, api.OK
}

// rule rules on a claim about a wrong stroke, and reports whether it is in time.
func (n *line) rule(at int, w wrong) bool {
	r := api.Ruling{Claim: len(n.taken), Deed: n.steps[at].number, Wrong: w.kind, Most: limits[n.game.Code][w.kind]}
	for _, s := range n.steps[at+1:] {
		if isStroke(s.deed) {
			r.Count++
		}
	}
	r.InTime = r.Count <= r.Most
	n.rulings = append(n.rulings, r)
	return r.InTime
}

// outcome returns what the deeds come to.
func (n *line) outcome() api.Outcome {
	return api.Outcome{Game: n.game, Stands: n.stands(), Rulings: n.rulings}
}

// stands returns the numbers of the deeds that stand.
func (n *line) stands() []int {
	var l []int
	for _, s := range n.steps {
		switch n.taken[s.number].(type) {
		case claim:
			// The step is the pass that this claim brought about, which is no deed of the record.
		default:
			l = append(l, s.number)
		}
	}
	return l
}

// clean returns the clean record.
func (n *line) clean() []api.Deed {
	var l []api.Deed
	for _, s := range n.steps {
		l = append(l, written(s.deed))
	}
	return l
}

// moves returns the moves of the line, and whether it has nothing else.
func (n *line) moves() ([]api.Move, bool) {
	var l []api.Move
	for _, s := range n.steps {
		m, ok := s.deed.(move)
		if !ok {
			return nil, false
		}
		l = append(l, m.Move)
	}
	return l, true
}
