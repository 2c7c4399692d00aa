package club_test

import (
	"math/rand"
	"testing"

	"roquet/api"
	"roquet/club"
	"roquet/game"
)

// P12.2, P12.3: what is done comes to what the definitions say, in all phases of all codes, also if it is often an error.
func TestAsDefined(t *testing.T) {
	r := dice(1)
	kinds := map[int]int{}
	for range 250 {
		m, x := anyMatch(t, r)
		for range 1 + r.Intn(25) {
			d := anyStroke(r, x)
			if x.g.Phase != api.PhaseOver {
				d = anyDoing(r, x)
			}
			if r.Intn(8) == 0 {
				d = spoilt(r, d)
			}
			y, _ := agree(t, m, x, d)
			for _, v := range y.Move.Events {
				kinds[v.Kind]++
			}
			if x.g.Phase == api.PhaseOver && r.Intn(2) == 0 {
				break
			}
		}
	}
	for kind := api.EventHit; kind <= api.EventFault; kind++ {
		if kinds[kind] < 10 {
			t.Errorf("events of the kind %d: %d", kind, kinds[kind])
		}
	}
}

// P12.8: the position is legal, and that of all moves from the beginning on.
func TestLegal(t *testing.T) {
	r := dice(8)
	for range 120 {
		m, x := anyMatch(t, r)
		begin := x.g
		for range 10 {
			if m.Game().Phase == api.PhaseOver {
				break
			}
			m.Do(anyDoing(r, &model{s: x.s, g: m.Game(), at: [4]api.Point(m.Places())}))
			g, n, e := game.PlayAll(begin, m.Moves())
			if game.Check(m.Game()) != api.OK || g != m.Game() || n != len(m.Moves()) || e != api.OK {
				t.Fatalf("%v after %v: %v, error %d", m.Game(), m.Moves(), g, e)
			}
		}
	}
}

// P1, R2, R6: all functions end for any arguments, and return nothing with an error.
func TestAnyArguments(t *testing.T) {
	r := dice(2)
	for range 20000 {
		s := setup()
		if r.Intn(2) == 0 {
			anyWhere(r, &s)
		}
		if m, e := club.New(s); (m == nil) != (e != api.OK) || e != club.CheckSetup(s) {
			t.Errorf("New(%v): %v, error %d", s, m, e)
		}
		g := among(r, startOf(api.CodeShort), turnOf(api.CodeShort), turnOf(api.CodeShort, croquetOf(1)), overOf(api.CodeShort), api.Game{Phase: r.Intn(5), Ball: int(anyNumber(r)), Turns: int(anyNumber(r))})
		m, e := club.Resume(s, g, put(spread(), r.Intn(4), at(anyNumber(r), anyNumber(r))))
		if (m == nil) != (e != api.OK) {
			t.Errorf("Resume(%v, %v): %v, error %d", s, g, m, e)
		}
		for range 3 {
			d := anyThing(r)
			if y, e := m.Do(d); e != api.OK && !isNothing(y) {
				t.Errorf("Do(%v): %v, error %d", d, y, e)
			}
			if wired, e := m.Wired(int(anyNumber(r)), int(anyNumber(r))); e != api.OK && wired {
				t.Errorf("Wired: error %d, and wired", e)
			}
			if x, e := m.Sheet(anyNumber(r), anyNumber(r), ann, api.Player{Name: string(rune(r.Intn(300)))}); e != api.OK && x != (api.Sheet{}) {
				t.Errorf("Sheet: %v, error %d", x, e)
			}
			if x, e := club.Text(doings(d, anyThing(r))); e != api.OK && x != "" {
				t.Errorf("Text(%v): %q, error %d", d, x, e)
			}
		}
	}
}

// anyNumber returns a number of any size; often one about a limit.
func anyNumber(r *rand.Rand) int64 {
	switch r.Intn(4) {
	case 0:
		return among(r, wild()...)
	case 1:
		return among[int64](r, far, -far, far+1, api.MaxPower, api.MaxPower+1, api.MaxTicks, 50000, 5000)
	case 2:
		return int64(r.Uint64())
	}
	return from(r, -2, 6)
}

// anyWhere puts any number somewhere into a setup.
func anyWhere(r *rand.Rand, s *api.Setup) {
	l := &s.Ground.Lawn
	for _, p := range []*int64{
		&s.Limit, &l.Wide, &l.Long, &l.Yard, &l.Peg.R, &l.Peg.At.X, &l.Hoops[0].Gap, &l.Hoops[1].Y, &l.Cells[0].Drag,
		&s.Ground.Balls[2].Mass, &s.Ground.Balls[3].Radius, &s.Ground.Bounce.Drag,
	} {
		if r.Intn(12) == 0 {
			*p = anyNumber(r)
		}
	}
	for _, p := range []*int{&s.Code, &s.Halves[0], &s.Halves[1], &s.Course[r.Intn(6)].Hoop, &l.NX, &l.NY, &s.Book.Year, &s.Book.Articles[1].Number} {
		if r.Intn(12) == 0 {
			*p = int(anyNumber(r))
		}
	}
	switch r.Intn(12) {
	case 0:
		s.Ground.Balls = s.Ground.Balls[:r.Intn(4)]
	case 1:
		s.Course = s.Course[:r.Intn(6)]
	case 2:
		s.Book.Articles = make([]api.Article, r.Intn(80))
	}
}

// anyThing returns a doing with any numbers.
func anyThing(r *rand.Rand) api.Doing {
	d := api.Doing{Kind: 1 + r.Intn(4), Ball: r.Intn(4), Lift: r.Intn(3) == 0, Half: r.Intn(3) == 0, At: at(27000, 5000), Aim: at(from(r, -9, 9), from(r, -9, 9)), Power: from(r, 0, 500000), Blow: r.Intn(5)}
	for range r.Intn(3) {
		for _, p := range []*int64{&d.At.X, &d.At.Y, &d.Aim.X, &d.Aim.Y, &d.Power} {
			if r.Intn(6) == 0 {
				*p = anyNumber(r)
			}
		}
		for _, p := range []*int{&d.Kind, &d.Ball, &d.Blow} {
			if r.Intn(6) == 0 {
				*p = int(anyNumber(r))
			}
		}
		d.Marks = append(d.Marks, mark(r.Intn(7), r.Intn(5), from(r, 0, 9), anyNumber(r)))
	}
	return d
}
