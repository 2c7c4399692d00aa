package club

import (
	"strconv"

	"roquet/api"
	"roquet/lawn"
	"roquet/turf"
)

// act is what a doing says, as far as it belongs to its kind. There is a type for each kind.
type act interface {
	// isValid reports whether the doing is valid.
	isValid() bool
	// do does it on a court, but for what comes behind each doing.
	do(c *court) (api.Done, error)
	// doing returns the doing that says just this.
	doing() api.Doing
	// lines returns the lines of its text.
	lines() []string
}

// choose is a doing of the kind DoChoose.
type choose struct {
	ball int
	lift bool
	at   api.Point
}

// pass is a doing of the kind DoPass.
type pass struct{}

// bisque is a doing of the kind DoBisque.
type bisque struct{ half bool }

// actOf returns what a doing says. It is nil if there is no such kind.
func actOf(d api.Doing) act {
	switch d.Kind {
	case api.DoChoose:
		return choose{ball: d.Ball, lift: d.Lift, at: d.At}
	case api.DoStroke:
		return strike{at: d.At, aim: d.Aim, power: d.Power, blow: d.Blow, marks: d.Marks}
	case api.DoPass:
		return pass{}
	case api.DoBisque:
		return bisque{half: d.Half}
	}
	return nil
}

func (a choose) isValid() bool { return isBall(a.ball) && turf.Check(a.at) == api.OK }

func (pass) isValid() bool { return true }

func (bisque) isValid() bool { return true }

func (a choose) do(c *court) (api.Done, error) {
	put := a.lift || !c.game.In[a.ball]
	m := api.Move{Kind: api.MoveChoose, Ball: a.ball, Lift: a.lift}
	if err := c.play(m); err != nil {
		return api.Done{}, err
	}
	if put {
		if baulk, _ := lawn.Baulk(c.Ground.Lawn, a.at); baulk == 0 || !c.mayLie(a.ball, a.at) {
			return api.Done{}, refusal{api.ErrRule}
		}
		c.places[a.ball] = a.at
	}
	return api.Done{Move: m}, nil
}

func (pass) do(c *court) (api.Done, error) {
	m := api.Move{Kind: api.MovePass}
	return api.Done{Move: m}, c.play(m)
}

func (a bisque) do(c *court) (api.Done, error) {
	m := api.Move{Kind: api.MoveBisque, Ball: c.game.Last}
	if a.half {
		m.Kind = api.MoveHalf
	}
	return api.Done{Move: m}, c.play(m)
}

// refusal is the error of something that cannot be done.
type refusal struct{ code api.Errno }

// Error says with which code it was refused.
func (r refusal) Error() string { return "refused: error " + strconv.Itoa(int(r.code)) }
