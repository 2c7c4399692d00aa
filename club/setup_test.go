package club_test

import (
	"testing"

	"roquet/api"
	"roquet/club"
	"roquet/game"
)

// gate returns a change of one gate of the course.
func gate(number, hoop int, forward bool) func(*api.Setup) {
	return func(s *api.Setup) { s.Course[number] = api.Gate{Hoop: hoop, Forward: forward} }
}

// balls returns a change of how many balls there are.
func balls(n int) func(*api.Setup) {
	return func(s *api.Setup) {
		s.Ground.Balls = make([]api.Ball, n)
		for i := range s.Ground.Balls {
			s.Ground.Balls[i] = api.Ball{Mass: 450, Radius: size}
		}
	}
}

// radius returns a change of the radius of a ball.
func radius(ball int, r int64) func(*api.Setup) {
	return func(s *api.Setup) { s.Ground.Balls[ball].Radius = r }
}

// halves returns a change of the half bisques.
func halves(a, b int) func(*api.Setup) { return func(s *api.Setup) { s.Halves = [2]int{a, b} } }

// limit returns a change of the ticks that a mallet may stay.
func limit(n int64) func(*api.Setup) { return func(s *api.Setup) { s.Limit = n } }

// noHoops and tooManyArticles are changes that make a ground, or a book, one that is not valid.
func noHoops(s *api.Setup)         { s.Ground.Lawn.Hoops = nil }
func tooManyArticles(s *api.Setup) { s.Book.Articles = articles(api.MaxArticles + 1) }

// articles returns articles, none of which brings about a fault.
func articles(n int) []api.Article {
	var l []api.Article
	for i := range n {
		l = append(l, api.Article{Number: i + 1, If: []string{"struck"}, Then: "fine"})
	}
	return l
}

// narrow is a change by which the lawn has a third hoop, which no ball of the examples can run.
func narrow(s *api.Setup) {
	s.Ground.Lawn.Hoops = append(s.Ground.Lawn.Hoops, api.Hoop{X: 70000, Y: 40000, Gap: 2*size - 2, Wire: 500})
}

// P12.1: setups that are valid.
func TestSetups(t *testing.T) {
	for name, s := range map[string]api.Setup{
		"the examples":                 setup(),
		"association":                  setupWith(codeIs(api.CodeAssociation), halves(40, 0)),
		"advanced":                     setupWith(codeIs(api.CodeAdvanced)),
		"former":                       setupWith(codeIs(api.CodeFormer)),
		"half bisques":                 setupWith(halves(0, 40)),
		"gates backward":               setupWith(gate(0, 1, false), gate(5, 0, false)),
		"the least limit":              setupWith(limit(0)),
		"the greatest limit":           setupWith(limit(api.MaxTicks)),
		"no articles":                  setupWith(func(s *api.Setup) { s.Book.Articles = nil }),
		"as many articles as can be":   setupWith(func(s *api.Setup) { s.Book.Articles = articles(api.MaxArticles) }),
		"balls just as wide as a hoop": setupWith(radius(0, 3000), radius(3, 3000)),
		"a hoop that is not run":       setupWith(narrow),
	} {
		if e := club.CheckSetup(s); e != api.OK {
			t.Errorf("%s: CheckSetup: error %d", name, e)
		}
		g, _ := game.New(s.Code, s.Halves)
		if m := mustNew(t, s); !sameStates(stateOf(m), standing{game: g, places: make([]api.Point, 4)}) {
			t.Errorf("%s: New: %v", name, stateOf(m))
		}
		if m, n, e := club.Replay(s, nil); m == nil || n != 0 || e != api.OK || m.Game() != g {
			t.Errorf("%s: Replay of nothing: %v, %d, error %d", name, m, n, e)
		}
		g = turnOf(s.Code)
		if m := mustResume(t, s, g, spread()); !sameStates(stateOf(m), standing{game: g, places: spread()}) {
			t.Errorf("%s: Resume: %v", name, stateOf(m))
		}
	}
}

// P12.1, P12.6: the error of a setup comes before all others.
func TestSetupErrors(t *testing.T) {
	for _, x := range []struct {
		name string
		s    api.Setup
		want api.Errno
	}{
		{"nothing", api.Setup{}, api.ErrMany},
		{"no hoops", setupWith(noHoops), api.ErrMany},
		{"no hoops, and nothing else is valid", setupWith(noHoops, balls(3), codeIs(9), limit(-1), tooManyArticles), api.ErrMany},
		{"a lawn without a name", setupWith(func(s *api.Setup) { s.Ground.Lawn.Name = "" }), api.ErrArg},
		{"a lawn that is not valid, and no balls", setupWith(func(s *api.Setup) { s.Ground.Lawn.Yard = -1 }, balls(0)), api.ErrArg},
		{"no balls", setupWith(balls(0)), api.ErrMany},
		{"nine balls", setupWith(balls(9), limit(-1)), api.ErrMany},
		{"three balls", setupWith(balls(3)), api.ErrArg},
		{"five balls", setupWith(balls(5)), api.ErrArg},
		{"a ball that is too small", setupWith(radius(2, api.MinRadius-1)), api.ErrArg},
		{"a bounce that is not valid", setupWith(func(s *api.Setup) { s.Ground.Bounce.Rebound = 951 }), api.ErrArg},
		{"the code -1", setupWith(codeIs(-1)), api.ErrArg},
		{"the code 4", setupWith(codeIs(4)), api.ErrArg},
		{"the code 4, with a course", setupWith(func(s *api.Setup) { s.Code = 4 }), api.ErrArg},
		{"half bisques below 0", setupWith(halves(-1, 0)), api.ErrArg},
		{"too many half bisques", setupWith(halves(0, 41)), api.ErrArg},
		{"half bisques by a code without any", setupWith(codeIs(api.CodeAdvanced), halves(1, 0)), api.ErrArg},
		{"no course", setupWith(func(s *api.Setup) { s.Course = nil }), api.ErrArg},
		{"a course that is too short", setupWith(func(s *api.Setup) { s.Course = s.Course[:5] }), api.ErrArg},
		{"a course that is too long", setupWith(func(s *api.Setup) { s.Course = append(s.Course, s.Course[0]) }), api.ErrArg},
		{"the course of another code", setupWith(func(s *api.Setup) { s.Code = api.CodeFormer }), api.ErrArg},
		{"a gate of the hoop -1", setupWith(gate(0, -1, true)), api.ErrArg},
		{"a gate of the hoop 2", setupWith(gate(5, 2, true)), api.ErrArg},
		{"a first ball that is too wide", setupWith(radius(0, 3001)), api.ErrArg},
		{"a last ball that is too wide", setupWith(radius(3, 3001)), api.ErrArg},
		{"a gate of a narrow hoop", setupWith(narrow, gate(3, 2, true)), api.ErrArg},
		{"no book", setupWith(func(s *api.Setup) { s.Book = api.Book{} }), api.ErrArg},
		{"too many articles", setupWith(tooManyArticles), api.ErrArg},
		{"a limit below 0", setupWith(limit(-1)), api.ErrArg},
		{"too great a limit", setupWith(limit(api.MaxTicks + 1)), api.ErrArg},
	} {
		if e := club.CheckSetup(x.s); e != x.want {
			t.Errorf("%s: CheckSetup: error %d, want %d", x.name, e, x.want)
		}
		if m, e := club.New(x.s); m != nil || e != x.want {
			t.Errorf("%s: New: %v, error %d, want %d", x.name, m, e, x.want)
		}
		for _, g := range []api.Game{{}, turnOf(x.s.Code), turnOf(api.CodeShort)} {
			if m, e := club.Resume(x.s, g, nil); m != nil || e != x.want {
				t.Errorf("%s: Resume: %v, error %d, want %d", x.name, m, e, x.want)
			}
		}
		if m, n, e := club.Replay(x.s, doings(pass(), api.Doing{})); m != nil || n != 0 || e != x.want {
			t.Errorf("%s: Replay: %v, %d, error %d, want %d", x.name, m, n, e, x.want)
		}
	}
}

// P12.1: what Resume refuses behind the setup.
func TestResumeErrors(t *testing.T) {
	on, l := turnOf(api.CodeShort), spread()
	bad := with(on, func(g *api.Game) { g.Dead[0] = true })
	other := turnOf(api.CodeAssociation)
	for _, x := range []struct {
		name   string
		g      api.Game
		places []api.Point
		want   api.Errno
	}{
		{"no position", api.Game{}, l, api.ErrArg},
		{"a position that is not legal", bad, l, api.ErrArg},
		{"a position that is not legal, and no places", bad, nil, api.ErrArg},
		{"a position of another code", other, l, api.ErrArg},
		{"a position of another code, and wrong places", other, l[:2], api.ErrArg},
		{"no places", on, nil, api.ErrEqual},
		{"three places, of which one is not possible", on, put(l[:3], 1, at(-1, 0)), api.ErrEqual},
		{"five places", on, append(spread(), at(1, 1)), api.ErrEqual},
		{"off the lawn", on, put(l, 0, at(-1, 50000)), api.ErrRule},
		{"far off the lawn", on, put(l, 3, at(50000, 200001)), api.ErrRule},
		{"no valid place", on, put(l, 2, at(far+1, 0)), api.ErrRule},
		{"on a wire", on, put(l, 1, at(46500, 43445)), api.ErrRule},
		{"on the peg", on, put(l, 1, at(50000, 104145)), api.ErrRule},
		{"on another ball", on, put(l, 1, at(20000, 155891)), api.ErrRule},
		{"at the place of another ball", on, put(l, 3, l[2]), api.ErrRule},
		{"on another ball, by the position at the end", overOf(api.CodeShort), put(l, 3, l[1]), api.ErrRule},
	} {
		if m, e := club.Resume(setup(), x.g, x.places); m != nil || e != x.want {
			t.Errorf("%s: Resume: %v, error %d, want %d", x.name, m, e, x.want)
		}
	}
	for _, n := range wild() {
		for ball := range 4 {
			if m, e := club.Resume(setup(), on, put(l, ball, at(n, n))); m != nil || e != api.ErrRule {
				t.Errorf("the ball %d at %d: Resume: %v, error %d", ball, n, m, e)
			}
		}
	}
}

// P12.1: where balls may be when a match is resumed.
func TestResume(t *testing.T) {
	l := spread()
	two := turnOf(api.CodeShort, peggedOut(1), peggedOut(2))
	for _, x := range []struct {
		name         string
		g            api.Game
		places, want []api.Point
	}{
		{"a ball in a corner", turnOf(api.CodeShort), put(l, 3, at(100000, 0)), put(l, 3, at(100000, 0))},
		{"a ball beside a wire", turnOf(api.CodeShort), put(l, 1, at(46500, 43446)), put(l, 1, at(46500, 43446))},
		{"a ball beside another one", turnOf(api.CodeShort), put(l, 1, at(20000, 155892)), put(l, 1, at(20000, 155892))},
		{"balls that are pegged out, anywhere", two, put(l, 1, l[0], 2, at(far+1, -7)), put(l, 1, at(0, 0), 2, at(0, 0))},
		{"a ball where others would be that are not in play", two, put(l, 0, at(0, 0)), put(l, 0, at(0, 0), 1, at(0, 0), 2, at(0, 0))},
		{"a game that is over", overOf(api.CodeShort), l, put(l, 0, at(0, 0), 2, at(0, 0))},
		{"a new game", with(turnOf(api.CodeShort), func(g *api.Game) { *g, _ = game.New(api.CodeShort, [2]int{1, 2}) }), l, make([]api.Point, 4)},
	} {
		if m := mustResume(t, setup(), x.g, x.places); !sameStates(stateOf(m), standing{game: x.g, places: x.want}) {
			t.Errorf("%s: Resume: %v, want %v", x.name, stateOf(m), x.want)
		}
	}
}
