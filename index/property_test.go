package index_test

import (
	"slices"
	"testing"

	"roquet/api"
	"roquet/index"
)

// sameOutcome fails if two ledgers do not come to the same: books, indexes, grades and tables.
func sameOutcome(t *testing.T, name string, p []api.Player, l, o []api.Sheet) {
	t.Helper()
	if a, b := mustBooks(t, l), mustBooks(t, o); !slices.Equal(a, b) {
		t.Errorf("%s: the books of %v are %v, those of %v are %v", name, brief(l), brief(a), brief(o), brief(b))
	}
	if a, b := mustSettle(t, p, l), mustSettle(t, p, o); !slices.Equal(a, b) {
		t.Errorf("%s: Settle(%v, %v): %v, but with %v: %v", name, p, brief(l), a, brief(o), b)
	}
	for _, x := range p {
		if a, b := mustHistory(t, p, l, x.Name), mustHistory(t, p, o, x.Name); !slices.Equal(a, b) {
			t.Errorf("%s: History(%v, %v, %s): %v, but with %v: %v", name, p, brief(l), x.Name, a, brief(o), b)
		}
	}
	for _, x := range [][2]int64{{0, api.MaxNumbers}, {3, 12}} {
		a, b := mustTable(t, p, l, x[0], x[1]), mustTable(t, p, o, x[0], x[1])
		if !slices.Equal(a, b) {
			t.Errorf("%s: Table(%v, %v, %v): %v, but with %v: %v", name, p, brief(l), x, a, brief(o), b)
		}
		checkNames(t, p, o, x[0], x[1], namesOf(a), 0, api.PlacedNone, api.OK)
	}
}

// P10.8: whatever the order in which sheets arrive, and however they are merged, or come twice.
func TestAnyOrder(t *testing.T) {
	r := dice(108)
	for range 400 {
		p, l := anyPlayers(r, len(pool())), anyLedger(r, 60)
		sameOutcome(t, "shuffled", p, l, shuffled(r, l))
		sameOutcome(t, "twice", p, l, shuffled(r, append(slices.Clone(l), l...)))
		k := r.Intn(len(l) + 1)
		a, b := l[:k], append(shuffled(r, l[k:]), l[r.Intn(len(l)+1):]...)
		sameOutcome(t, "merged", p, l, mustMerge(t, a, b))
		sameOutcome(t, "merged, the other way round", p, l, mustMerge(t, b, a))
		sameOutcome(t, "merged with itself", p, l, mustMerge(t, l, l))
		m := mustMerge(t, mustMerge(t, b, nil), mustMerge(t, shuffled(r, a), shuffled(r, l)))
		sameOutcome(t, "merged again and again", p, l, m)
		sameOutcome(t, "the books", p, l, mustBooks(t, l))
	}
}

// P10.8: the order in which players are given changes nothing but their order.
func TestAnyOrderOfPlayers(t *testing.T) {
	r := dice(1080)
	for range 400 {
		p, l := anyPlayers(r, len(pool())), anyLedger(r, 60)
		q := shuffled(r, p)
		if a, b := mustTable(t, p, l, 0, 15), mustTable(t, q, l, 0, 15); !slices.Equal(a, b) {
			t.Errorf("Table(%v, %v): %v, but of %v: %v", p, brief(l), a, q, b)
		}
		a, b := mustSettle(t, p, l), mustSettle(t, q, l)
		for i, x := range q {
			if b[i] != a[at(p, x.Name)] {
				t.Errorf("Settle(%v, %v): %v, but of %v: %v", p, brief(l), a, q, b)
			}
		}
	}
}

// P10.9: a greater version takes the place of all others with its number; one that is void is as if there had been no game.
func TestCorrections(t *testing.T) {
	r := dice(109)
	for range 400 {
		p, l := anyPlayers(r, len(pool())), anyLedger(r, 60)
		s := anySheet(r, pool(), 20, 20, api.MaxScore)
		s.Version = 4 + r.Intn(api.MaxVersions-3)
		var others []api.Sheet
		for _, x := range l {
			if x.Number != s.Number {
				others = append(others, x)
			}
		}
		s.Void = false
		sameOutcome(t, "corrected", p, append(slices.Clone(others), s), shuffled(r, append(slices.Clone(l), s)))
		s.Void = true
		sameOutcome(t, "void", p, others, shuffled(r, append(slices.Clone(l), s)))
	}
}

// P10.10: the sum of both indexes is kept, unless one is cut off.
func TestSumKept(t *testing.T) {
	r := dice(110)
	cut := 0
	for range 50000 {
		w, l, level := anyPlayer(r, "a"), anyPlayer(r, "b"), r.Intn(2) == 0
		v, m := mustCount(t, w, l, level)
		n, e := index.Gain(w.Index, l.Index, level)
		if e != api.OK {
			t.Fatalf("Gain: error %d", e)
		}
		if w.Index+n > api.MaxIndex || l.Index-n < -api.MaxIndex {
			cut++
			continue
		}
		if v.Index+m.Index != w.Index+l.Index {
			t.Errorf("Count(%v, %v, %v): %v, %v", w, l, level, v, m)
		}
	}
	if cut < 100 {
		t.Errorf("only %d were cut off", cut)
	}
}

// P10.10: the gain of a winner and that of the other one are together 20, and a better winner does not gain more.
func TestGainsTogether(t *testing.T) {
	gain := func(a, b int64, level bool) int64 {
		n, e := index.Gain(a, b, level)
		if e != api.OK {
			t.Fatalf("Gain(%d, %d, %v): error %d", a, b, level, e)
		}
		return n
	}
	for _, level := range []bool{true, false} {
		for _, b := range []int64{0, 1234, -api.MaxIndex, api.MaxIndex} {
			last := int64(20)
			for a := int64(-api.MaxIndex); a <= api.MaxIndex; a++ {
				n := gain(a, b, level)
				if n+gain(b, a, level) != 20 {
					t.Errorf("Gain(%d, %d, %v): %d, and the other one would have %d", a, b, level, n, gain(b, a, level))
				}
				if n > last || n < 1 {
					t.Errorf("Gain(%d, %d, %v): %d, and %d with an index of 1 less", a, b, level, n, last)
				}
				last = n
			}
		}
	}
}

// fits reports whether the grade of a player is that of the index.
func fits(p api.Player) bool {
	return (p.Grade == api.MinGrade || p.Index < modelTrigger(p.Grade-1)) && (p.Grade == api.MaxGrade || p.Index > modelTrigger(p.Grade+1))
}

// P10.11: behind a game a grade is that of the index; it does not change the wrong way.
func TestGrades(t *testing.T) {
	r := dice(111)
	fitted := 0
	for range 50000 {
		w, l, level := anyPlayer(r, "a"), anyPlayer(r, "b"), r.Intn(2) == 0
		v, m := mustCount(t, w, l, level)
		if !fits(v) || !fits(m) {
			t.Errorf("Count(%v, %v, %v): %v, %v", w, l, level, v, m)
		}
		if fits(w) {
			fitted++
			if v.Grade > w.Grade {
				t.Errorf("Count(%v, %v, %v): the winner is %v", w, l, level, v)
			}
		}
		if fits(l) && m.Grade < l.Grade {
			t.Errorf("Count(%v, %v, %v): the loser is %v", w, l, level, m)
		}
		if v.Name != w.Name || m.Name != l.Name {
			t.Errorf("Count(%v, %v, %v): %v, %v", w, l, level, v, m)
		}
	}
	if fitted < 5000 {
		t.Errorf("only %d grades were those of the indexes before", fitted)
	}
}

// P10.12: Won and Lost of all are the same, Net is 0, and nobody is placed before and after another one.
func TestTables(t *testing.T) {
	r := dice(112)
	for range 300 {
		table := mustTable(t, anyPlayers(r, len(pool())), anyLedger(r, 60), r.Int63n(5), 5+r.Int63n(15))
		var sum api.Standing
		for i, s := range table {
			sum.Won += s.Won
			sum.Lost += s.Lost
			sum.Net += s.Net
			for k, other := range table {
				before, rule := index.Before(s, other)
				if before != (i < k) || (rule == api.PlacedNone) != (i == k) {
					t.Errorf("Before(%v, %v) in %v: %v, %d", s, other, table, before, rule)
				}
			}
		}
		if sum.Won != sum.Lost || sum.Net != 0 {
			t.Errorf("the table %v: together %v", table, sum)
		}
	}
}

// P10.12: of three, the first one is before the last one; the rule is the first one of both.
func TestBeforeOfThree(t *testing.T) {
	r := dice(113)
	any := func() api.Standing {
		return standing([]string{"a", "b"}[r.Intn(2)], r.Intn(2), r.Intn(2), r.Intn(2), r.Intn(2), r.Intn(2))
	}
	for range 20000 {
		a, b, c := any(), any(), any()
		ab, first := index.Before(a, b)
		bc, second := index.Before(b, c)
		if ba, rule := index.Before(b, a); ab && ba || rule != first || (rule == api.PlacedNone && (ab || ba)) {
			t.Errorf("Before of %v and %v: %v, %d, and the other way round: %v, %d", a, b, ab, first, ba, rule)
		}
		if ac, rule := index.Before(a, c); ab && bc && (!ac || rule != min(first, second)) {
			t.Errorf("Before of %v, %v and %v: %v, %d", a, b, c, ac, rule)
		}
		if before, rule := modelBefore(a, b); before != ab || rule != first {
			t.Errorf("Before(%v, %v): %v, %d, want %v, %d", a, b, ab, first, before, rule)
		}
	}
}
