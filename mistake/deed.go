package mistake

import (
	"slices"
	"strconv"

	"roquet/api"
	"roquet/game"
)

// deed is a valid deed of a record. There is a type for each kind.
type deed interface {
	// do takes the deed behind those of the line, or refuses it and leaves the line as it was.
	do(n *line) error
}

// move is a deed of the kind DeedMove.
type move struct{ api.Move }

// wrong is a deed of the kind DeedWrong.
type wrong struct {
	kind   int
	ball   int
	events []api.Event
}

// claim is a deed of the kind DeedClaim.
type claim struct{ about int }

// refusal is the error of a deed that can't be taken.
type refusal struct {
	number int // of the deed
	code   api.Errno
}

// Error says which deed was refused.
func (r refusal) Error() string {
	return "deed " + strconv.Itoa(r.number) + ": error " + strconv.Itoa(int(r.code))
}

// deedOf returns a deed by its kind. It is nil if the deed is not valid.
func deedOf(d api.Deed) deed {
	switch {
	case d.Kind == api.DeedMove:
		return move{d.Move}
	case d.Kind == api.DeedWrong && isWrong(d.Wrong):
		return wrong{kind: d.Wrong, ball: d.Ball, events: d.Events}
	case d.Kind == api.DeedClaim:
		return claim{d.About}
	}
	return nil
}

func (m move) do(n *line) error {
	g, e := game.Play(n.game, m.Move)
	if e != api.OK {
		return n.refuse(e)
	}
	n.add(m, g)
	return nil
}

func (w wrong) do(n *line) error {
	if !w.isPossible(n.game) {
		return n.refuse(api.ErrState)
	}
	g, e := game.Play(w.asIf(n.game), api.Move{Kind: api.MoveStroke, Events: w.events})
	if e != api.OK {
		return n.refuse(e)
	}
	n.add(w, g)
	return nil
}

func (c claim) do(n *line) error {
	at, w, e := n.disputed(c.about)
	if e != api.OK {
		return n.refuse(e)
	}
	if !n.rule(at, w) {
		return nil
	}
	n.cut(at)
	if w.kind == api.WrongTurn {
		return nil
	}
	// The turn ends. This pass is always allowed, as both other kinds are wrong strokes in a turn.
	return move{api.Move{Kind: api.MovePass}}.do(n)
}

// isStroke reports whether a deed is a stroke.
func isStroke(d deed) bool {
	switch x := d.(type) {
	case move:
		return x.Kind == api.MoveStroke
	case wrong:
		return true
	}
	return false
}

// written returns a deed as it is written in a clean record, in memory of its own.
func written(d deed) api.Deed {
	switch x := d.(type) {
	case move:
		x.Events = slices.Clone(x.Events)
		return api.Deed{Kind: api.DeedMove, Move: x.Move}
	case wrong:
		return api.Deed{Kind: api.DeedWrong, Wrong: x.kind, Ball: x.ball, Events: slices.Clone(x.events)}
	}
	return api.Deed{}
}
