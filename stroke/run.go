package stroke

import (
	"iter"

	"roquet/api"
	"roquet/contact"
	"roquet/lawn"
)

// run is a state that goes on, on a field. It tells of each knock.
type run struct {
	field
	api.State
	tell func(api.Knock)
	told int // knocks
}

// begin returns a run from a state on, both of which are valid; it leaves the state as it is.
func begin(g api.Ground, s api.State, tell func(api.Knock)) *run {
	return &run{field: fieldOf(g), State: copyOf(s), tell: tell}
}

// record lets a run from a state on do something, and returns its state after that, and what it told.
func record(g api.Ground, s api.State, do func(*run) api.Errno) (api.State, []api.Knock, api.Errno) {
	var knocks []api.Knock
	r := begin(g, s, func(k api.Knock) { knocks = append(knocks, k) })
	if e := do(r); e != api.OK {
		return api.State{}, nil, e
	}
	return r.State, knocks, api.OK
}

// attempt calls do, and returns the error with which it panics, if it does.
func attempt(do func()) (e api.Errno) {
	// Only what comes to its end went well, whatever else a panic may be of.
	e = api.ErrState
	defer func() {
		if wrong, ok := recover().(api.Errno); ok {
			e = wrong
		}
	}()
	do()
	return api.OK
}

// must ends what is attempted, if there is an error.
func must(e api.Errno) {
	if e != api.OK {
		panic(e)
	}
}

// ticks yields OK after each tick, until the balls are still or n ticks were done; or, as the last thing, the error that ends the run.
func (r *run) ticks(n int) iter.Seq[api.Errno] {
	return func(yield func(api.Errno) bool) {
		for range n {
			if allStill(r.State) {
				return
			}
			e := attempt(r.tick)
			if e == api.OK && r.told > api.MaxKnocks {
				e = api.ErrMany
			}
			if !yield(e) || e != api.OK {
				return
			}
		}
	}
}

// tick does a tick.
func (r *run) tick() {
	if r.Tick == api.MaxRun {
		panic(api.ErrRange)
	}
	r.slow()
	for step := range api.Steps {
		r.step(step + 1)
	}
	r.Flies = max(r.Flies-1, 0)
	r.Tick++
}

// slow lets the cells of the lawn work on the balls that roll.
func (r *run) slow() {
	for i := range r.Balls {
		if !r.counts(i) || isStill(r.Motions[i]) {
			continue
		}
		cell, e := lawn.CellAt(r.Lawn, r.Motions[i].At)
		must(e)
		r.push(i, api.Point{X: cell.DX, Y: cell.DY})
		m, e := contact.Slow(r.Motions[i].M, cell.Drag)
		must(e)
		r.Motions[i].M = m
	}
}

// step does a step, of which n is the number.
func (r *run) step(n int) {
	r.roll(n)
	r.settle(n)
	for i := range r.Balls {
		if r.counts(i) && !isStill(r.Motions[i]) {
			r.bump(n, i)
		}
	}
}

// roll moves the balls by a step; those that leave the lawn are out.
func (r *run) roll(step int) {
	for i, b := range r.Balls {
		if r.Out[i] || isStill(r.Motions[i]) {
			continue
		}
		m, e := contact.Step(b, r.Motions[i])
		must(e)
		r.Motions[i] = m
		if !on(r.Lawn, m.At) {
			r.Out[i], r.Motions[i].M = true, api.Point{}
			r.knock(step, api.KnockOut, i, 0)
		}
	}
}

// settle lets the balls bounce off each other, once.
func (r *run) settle(step int) {
	var numbers []int
	var balls []api.Ball
	var motions []api.Motion
	for i, b := range r.Balls {
		if r.counts(i) {
			numbers, balls, motions = append(numbers, i), append(balls, b), append(motions, r.Motions[i])
		}
	}
	motions, pairs, e := contact.Settle(balls, motions, r.Bounce)
	must(e)
	for k, i := range numbers {
		r.Motions[i] = motions[k]
	}
	for _, p := range pairs {
		r.knock(step, api.KnockBall, numbers[p[0]], numbers[p[1]])
	}
}

// bump lets a ball bounce off the posts.
func (r *run) bump(step, ball int) {
	for k, post := range r.posts {
		m, e := contact.Bump(r.Balls[ball], r.Motions[ball], post, r.Bounce)
		switch e {
		case api.OK:
			r.Motions[ball] = m
			r.knock(step, api.KnockPost, ball, k)
		case api.ErrOver:
			panic(e)
		}
	}
}

// push makes the momentum of a ball greater.
func (r *run) push(ball int, by api.Point) {
	m := api.Point{X: r.Motions[ball].M.X + by.X, Y: r.Motions[ball].M.Y + by.Y}
	if !isMomentum(m) {
		panic(api.ErrOver)
	}
	r.Motions[ball].M = m
}

// knock tells of a knock.
func (r *run) knock(step, kind, ball, other int) {
	r.told++
	r.tell(api.Knock{Tick: r.Tick, Step: step, Kind: kind, Ball: ball, Other: other})
}

// counts reports whether a ball counts in a contact.
func (r *run) counts(ball int) bool {
	return !r.Out[ball] && !r.flies(ball)
}

// flies reports whether a ball flies.
func (r *run) flies(ball int) bool {
	return ball == r.Who && r.Flies > 0
}
