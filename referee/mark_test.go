package referee_test

import (
	"math"
	"math/rand"
	"slices"
	"testing"

	"roquet/api"
	"roquet/referee"
)

// mallet returns a mark of the mallet.
func mallet(from, to int64) api.Mark { return api.Mark{Kind: api.MarkMallet, From: from, To: to} }

// held returns a mark of a ball on a post.
func held(from, to int64) api.Mark { return api.Mark{Kind: api.MarkHeld, From: from, To: to} }

// moved returns a mark of a ball that moves.
func moved(ball int, from, to int64) api.Mark {
	return api.Mark{Kind: api.MarkMoved, Ball: ball, From: from, To: to}
}

// marks returns a list of marks.
func marks(l ...api.Mark) []api.Mark { return l }

// P6.6: each fact, and what nearly shows it. The ball that is played is 1, the limit 3.
func TestFacts(t *testing.T) {
	for _, x := range []struct {
		name string
		l    []api.Mark
		want string
	}{
		{"nothing", nil, ""},
		{"a mallet", marks(mallet(5, 6)), "struck"},
		{"two mallets that are alike", marks(mallet(5, 6), mallet(5, 6)), "struck double"},
		{"three mallets", marks(mallet(5, 6), mallet(8, 9), mallet(3, 3)), "struck double"},
		{"a mallet for as long as it may", marks(mallet(5, 8)), "struck"},
		{"a mallet for longer", marks(mallet(5, 9)), "struck push"},
		{"the second mallet for longer", marks(mallet(5, 8), mallet(9, 13)), "struck double push"},
		{"others for longer", marks(held(0, 100), moved(1, 0, 100)), "moved"},
		{"a mallet until it is held", marks(mallet(5, 6), held(6, 9)), "struck crush"},
		{"a mallet before it is held", marks(mallet(5, 6), held(7, 9)), "struck"},
		{"a mallet when it was held", marks(held(3, 5), mallet(5, 6)), "struck crush"},
		{"a mallet after it was held", marks(held(3, 4), mallet(5, 6)), "struck"},
		{"a mallet while it is held", marks(mallet(5, 6), held(0, 99)), "struck crush"},
		{"held while there is a mallet", marks(mallet(5, 8), held(6, 7)), "struck crush"},
		{"the second of both", marks(mallet(5, 6), mallet(20, 21), held(1, 2), held(21, 22)), "struck double crush"},
		{"held alone", marks(held(1, 2), held(1, 2)), ""},
		{"another ball", marks(api.Mark{Kind: api.MarkOther}), "other"},
		{"a post", marks(api.Mark{Kind: api.MarkPost}), "wire"},
		{"a body", marks(api.Mark{Kind: api.MarkBody, Ball: 1}), "body"},
		{"the ball moves", marks(moved(1, 5, 6)), "moved"},
		{"another ball moves", marks(moved(0, 5, 6)), "shook"},
		{"both move", marks(moved(3, 5, 6), moved(1, 5, 6)), "moved shook"},
		{"late", marks(mallet(5, 6), mallet(8, 9), moved(0, 8, 20)), "struck double shook late"},
		{"late, the ball itself moves", marks(mallet(5, 6), mallet(8, 9), moved(1, 6, 20)), "struck double moved"},
		{"before the other ball moves", marks(mallet(5, 6), mallet(8, 9), moved(0, 9, 20)), "struck double shook"},
		{"one mallet, though late", marks(mallet(5, 6), moved(0, 1, 2)), "struck shook"},
		{"a mallet at the same time", marks(mallet(5, 6), mallet(5, 6), moved(0, 1, 2)), "struck double shook"},
		{"a mallet that came before the first one", marks(mallet(5, 6), mallet(4, 6), moved(0, 1, 2)), "struck double shook"},
		{"the third mallet is late", marks(mallet(5, 6), mallet(7, 8), mallet(9, 9), moved(2, 9, 9), moved(0, 50, 60)), "struck double shook late"},
		{"the second one is not late, the third one is the first in time", marks(mallet(5, 6), mallet(7, 8), mallet(2, 2), moved(2, 9, 9)), "struck double shook"},
		{"the marks in another order", marks(moved(0, 8, 20), mallet(5, 6), held(9, 9), mallet(8, 9)), "struck double crush shook late"},
		{"all but the ball itself", marks(mallet(0, 9), mallet(9, 9), held(9, 9), api.Mark{Kind: 1}, api.Mark{Kind: 2}, api.Mark{Kind: 4}, moved(0, 0, 0)), "struck double push crush other wire body shook late"},
	} {
		if facts := mustFacts(t, x.l, 1, 3); !slices.Equal(facts, list(x.want)) {
			t.Errorf("Facts of %s: %v", x.name, facts)
		}
	}
	// The kinds but for MarkMoved have no need of the ball.
	if facts := mustFacts(t, marks(api.Mark{Kind: api.MarkMallet, Ball: 3}, api.Mark{Kind: api.MarkHeld, Ball: 2}), 1, 3); !slices.Equal(facts, list("struck crush")) {
		t.Errorf("Facts of marks of other balls: %v", facts)
	}
}

// P6.6: the limits of ticks, of marks and of the ticks that a mallet may stay.
func TestFactsLimits(t *testing.T) {
	most := []api.Mark{mallet(0, api.MaxTicks)}
	if facts := mustFacts(t, most, 3, api.MaxTicks); !slices.Equal(facts, list("struck")) {
		t.Errorf("Facts with the greatest limit: %v", facts)
	}
	if facts := mustFacts(t, most, 0, api.MaxTicks-1); !slices.Equal(facts, list("struck push")) {
		t.Errorf("Facts with nearly the greatest limit: %v", facts)
	}
	if facts := mustFacts(t, slices.Repeat(marks(mallet(0, 1)), api.MaxMarks), 0, 0); !slices.Equal(facts, list("struck double push")) {
		t.Errorf("Facts of as many marks as possible: %v", facts)
	}
}

// badMarks are marks that are not valid in one thing.
func badMarks() []api.Mark {
	return []api.Mark{
		{Kind: -1}, {Kind: 6}, {Kind: math.MaxInt}, {Kind: math.MinInt}, {Ball: -1}, {Ball: 4}, {Ball: math.MaxInt}, {Ball: math.MinInt},
		mallet(-1, 5), mallet(5, 4), mallet(0, api.MaxTicks+1), mallet(api.MaxTicks+1, api.MaxTicks+1), mallet(math.MinInt64, math.MaxInt64), mallet(math.MaxInt64, math.MaxInt64), mallet(-2, -1),
	}
}

// P6.6: the errors of Facts, in order.
func TestFactsErrors(t *testing.T) {
	check := func(l []api.Mark, ball int, limit int64, want api.Errno) {
		t.Helper()
		if facts, e := referee.Facts(l, ball, limit); facts != nil || e != want {
			t.Errorf("Facts(%v, %d, %d): %v, error %d, not %d", l, ball, limit, facts, e, want)
		}
		// Judge has the same errors, before that of the fact.
		for _, fact := range []string{"fault", ""} {
			if follows, way, e := referee.Judge(laws(), l, ball, limit, fact); follows || way != nil || e != want {
				t.Errorf("Judge(%v, %d, %d, %q): %v, %v, error %d, not %d", l, ball, limit, fact, follows, way, e, want)
			}
		}
	}
	good := marks(mallet(1, 2))
	check(slices.Repeat(good, api.MaxMarks+1), 0, 0, api.ErrMany)
	check(slices.Repeat(badMarks()[:1], api.MaxMarks+1), -1, -1, api.ErrMany)
	for _, m := range badMarks() {
		check(marks(m), 0, 0, api.ErrArg)
		check(marks(mallet(1, 2), m), -1, -1, api.ErrArg)
	}
	for _, ball := range []int{-1, 4, math.MaxInt, math.MinInt} {
		check(good, ball, 0, api.ErrRange)
		check(nil, ball, 0, api.ErrRange)
	}
	for _, limit := range []int64{-1, api.MaxTicks + 1, math.MaxInt64, math.MinInt64} {
		check(good, 0, limit, api.ErrRange)
	}
}

// anyMarks returns valid marks within a few ticks.
func anyMarks(r *rand.Rand, most int) []api.Mark {
	var l []api.Mark
	for range r.Intn(most + 1) {
		m := api.Mark{Kind: r.Intn(6), Ball: r.Intn(4), From: roll(r, 0, 12)}
		if r.Intn(2) == 0 {
			m.Kind = api.MarkMallet
		}
		m.To = m.From + roll(r, 0, 3)
		l = append(l, m)
	}
	return l
}

// P6.6: the facts of marks of all sorts are those of the second version.
func TestFactsOfAll(t *testing.T) {
	r := dice(70)
	count := map[string]int{}
	for range 8000 {
		l, ball, limit := anyMarks(r, 6), r.Intn(4), roll(r, 0, 4)
		facts := mustFacts(t, l, ball, limit)
		if want := modelFacts(l, ball, limit); !slices.Equal(facts, want) {
			t.Errorf("Facts(%v, %d, %d): %v, want %v", l, ball, limit, facts, want)
		}
		for _, f := range facts {
			count[f]++
		}
	}
	for _, f := range list("struck double push crush other wire body moved shook late") {
		if count[f] < 100 || count[f] > 7900 {
			t.Errorf("of 8000 lists %d show %s", count[f], f)
		}
	}
}

// P6.12: the order of marks does not matter, but for those of a mallet; more marks after them show no fewer facts.
func TestOrderOfMarks(t *testing.T) {
	r := dice(71)
	for range 4000 {
		l, ball, limit := anyMarks(r, 7), r.Intn(4), roll(r, 0, 4)
		facts := mustFacts(t, l, ball, limit)
		var mallets, mixed []api.Mark
		for _, m := range l {
			if m.Kind == api.MarkMallet {
				mallets = append(mallets, m)
			} else {
				mixed = slices.Insert(mixed, r.Intn(len(mixed)+1), m)
			}
		}
		for k := 0; len(mallets) > 0; k++ {
			if k >= len(mixed) || r.Intn(2) == 0 {
				mixed = slices.Insert(mixed, min(k, len(mixed)), mallets[0])
				mallets = mallets[1:]
			}
		}
		if again := mustFacts(t, mixed, ball, limit); !slices.Equal(again, facts) {
			t.Errorf("Facts of %v: %v, but of %v: %v", l, facts, mixed, again)
		}
		more := mustFacts(t, append(slices.Clone(l), anyMarks(r, 5)...), ball, limit)
		for _, f := range facts {
			if !slices.Contains(more, f) {
				t.Errorf("with more marks than %v there is no %s", l, f)
			}
		}
	}
}

// P6.6: what is judged: what follows, what is seen, and what does not follow.
func TestJudge(t *testing.T) {
	double := marks(mallet(5, 6), mallet(8, 9))
	for _, x := range []struct {
		l       []api.Mark
		fact    string
		follows bool
		way     []int
	}{
		{double, "fault", true, []int{10}},
		{double, "ended", true, []int{10, 20}},
		{double, "warned", false, nil},
		{append(slices.Clone(double), api.Mark{Kind: api.MarkPost}), "warned", true, []int{10, 20, 30}},
		{append(slices.Clone(double), moved(1, 7, 8)), "fault", false, nil},
		{append(slices.Clone(double), moved(0, 7, 8)), "fault", true, []int{10}},
		{double, "double", true, nil},
		{double, "shook", false, nil},
		{double[:1], "fault", false, nil},
		{nil, "fault", false, nil},
		{double, "x", false, nil},
		{double, "if", false, nil},
	} {
		follows, way, e := referee.Judge(laws(), x.l, 0, 3, x.fact)
		if follows != x.follows || !slices.Equal(way, x.way) || e != api.OK {
			t.Errorf("Judge %s of %v: %v, %v, error %d", x.fact, x.l, follows, way, e)
		}
	}
	for _, s := range badNames() {
		if follows, way, e := referee.Judge(laws(), double, 0, 3, s); follows || way != nil || e != api.ErrArg {
			t.Errorf("Judge %q: %v, %v, error %d", s, follows, way, e)
		}
	}
}

// P6.6: Judge is Why of the facts of the marks.
func TestJudgeOfAll(t *testing.T) {
	r := dice(72)
	b := book(article(1, "double then a"), article(2, "push unless late then a"), article(3, "a shook then b"), article(4, "crush then b"), article(5, "b unless body then c"))
	for range 3000 {
		l, ball, limit, fact := anyMarks(r, 6), r.Intn(4), roll(r, 0, 3), list("a b c late double")[r.Intn(5)]
		given := mustFacts(t, l, ball, limit)
		want, none := referee.Why(b, given, fact)
		follows, way, e := referee.Judge(b, l, ball, limit, fact)
		if follows != (none == api.OK) || !slices.Equal(way, want) || e != api.OK {
			t.Errorf("Judge %s of %v: %v, %v, error %d, want %v, error %d", fact, l, follows, way, e, want, none)
		}
	}
}
