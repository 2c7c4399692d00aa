package stroke_test

import (
	"math"
	"reflect"
	"testing"

	"roquet/api"
	"roquet/stroke"
)

// arguments are all arguments that a function with a ground may have; each function takes what it needs.
type arguments struct {
	g      api.Ground
	s      api.State
	places []api.Point
	b      api.Blow
	knocks []api.Knock
	ball   int
	ticks  int
}

// call is a function with a ground: whether it has a state, and a call that returns its results without the error.
type call struct {
	name  string
	state bool
	do    func(x arguments) ([]any, api.Errno)
}

// calls are all functions with a ground.
func calls() []call {
	return []call{
		{"CheckGround", false, func(x arguments) ([]any, api.Errno) { return nil, stroke.CheckGround(x.g) }},
		{"CheckState", true, func(x arguments) ([]any, api.Errno) { return nil, stroke.CheckState(x.g, x.s) }},
		{"Lie", false, func(x arguments) ([]any, api.Errno) {
			s, e := stroke.Lie(x.g, x.places)
			return []any{s}, e
		}},
		{"Still", true, func(x arguments) ([]any, api.Errno) {
			still, e := stroke.Still(x.g, x.s)
			return []any{still}, e
		}},
		{"Strike", true, func(x arguments) ([]any, api.Errno) {
			s, l, e := stroke.Strike(x.g, x.s, x.b)
			return []any{s, l}, e
		}},
		{"Tick", true, func(x arguments) ([]any, api.Errno) {
			s, l, e := stroke.Tick(x.g, x.s)
			return []any{s, l}, e
		}},
		{"Play", true, func(x arguments) ([]any, api.Errno) {
			s, l, e := stroke.Play(x.g, x.s, x.ticks)
			return []any{s, l}, e
		}},
		{"Track", true, func(x arguments) ([]any, api.Errno) {
			l, e := stroke.Track(x.g, x.s, x.ball, x.ticks)
			return []any{l}, e
		}},
		{"Met", false, func(x arguments) ([]any, api.Errno) {
			l, e := stroke.Met(x.g, x.knocks, x.ball)
			return []any{l}, e
		}},
		{"Total", true, func(x arguments) ([]any, api.Errno) {
			p, e := stroke.Total(x.g, x.s)
			return []any{p}, e
		}},
	}
}

// allZero reports whether all results are zero values.
func allZero(l []any) bool {
	for _, x := range l {
		if v := reflect.ValueOf(x); !v.IsZero() {
			return false
		}
	}
	return true
}

// starts are arguments for which, were they valid, functions do well, or have errors of their own.
func starts() []arguments {
	good := arguments{
		g: ground(2, 100), s: state(ball{at: at(50000, 60000)}, ball{at: at(50000, 65892)}),
		places: []api.Point{at(50000, 60000), at(50000, 65892)},
		b:      drive(), knocks: []api.Knock{knock(0, 1)}, ticks: 3,
	}
	bad := arguments{
		g: ground(2, 100), s: state(ball{at(50000, 60000), at(1, 1)}, ball{at: at(50000, 65892)}),
		places: []api.Point{at(-1, 0)},
		b:      api.Blow{Ball: 9}, knocks: make([]api.Knock, api.MaxKnocks+1), ball: 7, ticks: math.MinInt,
	}
	bad.s.Tick = api.MaxRun
	return []arguments{good, bad}
}

// P4.1 to P4.5: the error of the ground comes first, whatever else is wrong, and that of the state comes next; with an error all else is zero.
func TestErrorsInOrder(t *testing.T) {
	noLawn := func(g *api.Ground) { g.Lawn = api.Lawn{} }
	noBalls := func(g *api.Ground) { g.Balls = nil }
	noBounce := func(g *api.Ground) { g.Bounce.Drag = 301 }
	noMotions := func(s *api.State) { s.Motions = nil }
	noWho := func(s *api.State) { s.Who = -1 }
	asItIs := func(*api.State) {}
	for _, x := range []struct {
		ground func(g *api.Ground)
		state  func(s *api.State)
		want   api.Errno
	}{
		{noLawn, asItIs, api.ErrMany}, {noLawn, noMotions, api.ErrMany}, {noLawn, noWho, api.ErrMany},
		{noBalls, asItIs, api.ErrMany}, {noBalls, noMotions, api.ErrMany}, {noBalls, noWho, api.ErrMany},
		{noBounce, asItIs, api.ErrArg}, {noBounce, noMotions, api.ErrArg}, {noBounce, noWho, api.ErrArg},
		{func(*api.Ground) {}, noMotions, api.ErrEqual}, {func(*api.Ground) {}, noWho, api.ErrArg},
	} {
		for _, c := range calls() {
			for _, y := range starts() {
				y.g, y.s = groundWith(y.g, x.ground), with(y.s, x.state)
				if !c.state && stroke.CheckGround(y.g) == api.OK {
					continue
				}
				if l, e := c.do(y); e != x.want || !allZero(l) {
					t.Errorf("%s: %v, error %d, want %d", c.name, l, e, x.want)
				}
			}
		}
	}
}

// P4.2 to P4.5: what a valid ground and state do not help.
func TestErrorsOfTheRest(t *testing.T) {
	bad := starts()[1]
	want := map[string]api.Errno{
		"Lie": api.ErrEqual, "Strike": api.ErrArg, "Tick": api.ErrRange, "Play": api.ErrRange, "Track": api.ErrRange, "Met": api.ErrMany,
	}
	for _, c := range calls() {
		if l, e := c.do(bad); e != want[c.name] || e != api.OK && !allZero(l) {
			t.Errorf("%s: %v, error %d, want %d", c.name, l, e, want[c.name])
		}
	}
}

// R5: no function changes its arguments, and no result shares memory with them.
func TestMemory(t *testing.T) {
	g := ground(3, 100)
	s := state(ball{at(50000, 60000), at(0, 200000)}, ball{at: at(50000, 65900)}, ball{at(3, 60000), at(-unit, 0)})
	s.Motions, s.Out = append(make([]api.Motion, 0, 9), s.Motions...), append(make([]bool, 0, 9), s.Out...)
	still := with(state(ball{at: at(50000, 60000)}, ball{at: at(50000, 65892)}, ball{at: at(3, 60000)}), func(*api.State) {})
	oldGround, oldState, oldStill := groundWith(g, func(*api.Ground) {}), with(s, func(*api.State) {}), with(still, func(*api.State) {})
	spoil := func(x api.State) {
		for i := range x.Motions {
			x.Motions[i].M, x.Out[i] = at(77, 77), true
		}
	}
	for _, do := range []func(){
		func() { spoil(first2(mustTick(t, g, s))) },
		func() { spoil(first2(mustPlay(t, g, s, 0))) },
		func() { spoil(first2(mustPlay(t, g, s, 50))) },
		func() { spoil(first2(mustPlay(t, g, still, 50))) },
		func() { spoil(first2(mustStrike(t, g, still, drive()))) },
		func() { stroke.Track(g, s, 0, 50) },
		func() { stroke.Tick(g, with(s, func(s *api.State) { s.Tick = api.MaxRun })) },
	} {
		do()
		if !reflect.DeepEqual(g, oldGround) || !sameState(s, oldState) || !sameState(still, oldStill) {
			t.Fatalf("arguments have changed: %v, %v, %v", g, s, still)
		}
	}
}
