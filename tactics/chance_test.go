package tactics_test

import (
	"math"
	"math/big"
	"math/rand"
	"slices"
	"testing"

	"roquet/api"
	"roquet/tactics"
)

// checkChance fails if a record does not have this chance.
func checkChance(t *testing.T, hits, tries, doubt int64, want api.Chance) {
	t.Helper()
	if c, e := tactics.Chance(hits, tries, doubt); c != want || e != api.OK {
		t.Errorf("Chance(%d, %d, %d): %v, error %d, want %v", hits, tries, doubt, c, e, want)
	}
}

// P9.1: the chances of records, and the limits.
func TestChance(t *testing.T) {
	for _, x := range []struct {
		hits, tries, doubt int64
		want               api.Chance
	}{
		{8, 10, 2, bounds(666666, 833334)},
		{0, 0, 1, bounds(0, whole)},
		{0, 0, api.MaxDoubt, bounds(0, whole)},
		{0, 1, 1, bounds(0, 500000)},
		{1, 1, 1, bounds(500000, whole)},
		{1, 2, 1, bounds(333333, 666667)},
		{1, 3, 1, bounds(250000, 500000)},
		{2, 6, 1, bounds(285714, 428572)},
		{0, api.MaxTries, 1, bounds(0, 1)},
		{api.MaxTries, api.MaxTries, 1, bounds(999999, whole)},
		{1, api.MaxTries, 1, bounds(0, 2)},
		{2, api.MaxTries, 1, bounds(1, 3)},
		{api.MaxTries - 1, api.MaxTries, api.MaxDoubt, bounds(999903, whole)},
		{50, 100, 100, bounds(250000, 750000)},
	} {
		checkChance(t, x.hits, x.tries, x.doubt, x.want)
	}
}

// P9.1: any records.
func TestAnyChance(t *testing.T) {
	r := dice(901)
	for range 20000 {
		tries := r.Int63n(1 << from(r, 1, 20))
		hits, doubt := from(r, 0, tries), from(r, 1, api.MaxDoubt)
		checkChance(t, hits, tries, doubt, bounds(roundDown(hits*whole, tries+doubt), roundUp((hits+doubt)*whole, tries+doubt)))
	}
}

// P9.1: numbers that are out of range.
func TestChanceErrors(t *testing.T) {
	for _, x := range [][3]int64{
		{0, -1, 1}, {-1, -1, 1}, {0, api.MaxTries + 1, 1}, {0, math.MinInt64, 1}, {0, math.MaxInt64, 1},
		{-1, 10, 1}, {11, 10, 1}, {1, 0, 1}, {math.MinInt64, 10, 1}, {math.MaxInt64, 10, 1}, {math.MaxInt64, math.MaxInt64, 1},
		{5, 10, 0}, {5, 10, -1}, {5, 10, api.MaxDoubt + 1}, {5, 10, math.MinInt64}, {5, 10, math.MaxInt64},
	} {
		if c, e := tactics.Chance(x[0], x[1], x[2]); c != (api.Chance{}) || e != api.ErrRange {
			t.Errorf("Chance(%v): %v, error %d, want ErrRange", x, c, e)
		}
	}
}

// P9.8: the chance of a record contains h / n; with k times as many it is not wider, but for 2.
func TestChanceOfMore(t *testing.T) {
	r := dice(902)
	for range 5000 {
		tries := 1 + r.Int63n(1<<from(r, 1, 18))
		hits, doubt := from(r, 0, tries), from(r, 1, api.MaxDoubt)
		c, e := tactics.Chance(hits, tries, doubt)
		if e != api.OK || c.Lo*tries > hits*whole || c.Hi*tries < hits*whole || c.Lo < 0 || c.Hi > whole {
			t.Errorf("Chance(%d, %d, %d): %v, error %d", hits, tries, doubt, c, e)
		}
		k := from(r, 1, api.MaxTries/tries)
		more, e := tactics.Chance(k*hits, k*tries, doubt)
		if e != api.OK || more.Hi-more.Lo > c.Hi-c.Lo+2 {
			t.Errorf("Chance(%d, %d, %d): %v, error %d, and %d times as many: %v", hits, tries, doubt, c, e, k, more)
		}
	}
}

// checkTogether fails if these are not the bounds for all of some chances, and for at least one.
func checkTogether(t *testing.T, l []api.Chance, all, some api.Chance) {
	t.Helper()
	if c, e := tactics.All(l); c != all || e != api.OK {
		t.Errorf("All(%v): %v, error %d, want %v", l, c, e, all)
	}
	if c, e := tactics.Any(l); c != some || e != api.OK {
		t.Errorf("Any(%v): %v, error %d, want %v", l, c, e, some)
	}
}

// P9.2: all of some chances, and at least one.
func TestTogether(t *testing.T) {
	half := bounds(500000, 600000)
	for _, x := range []struct {
		l         []api.Chance
		all, some api.Chance
	}{
		{nil, sure(whole), sure(0)},
		{[]api.Chance{}, sure(whole), sure(0)},
		{[]api.Chance{half}, half, half},
		{[]api.Chance{half, half}, bounds(250000, 360000), bounds(750000, 840000)},
		{[]api.Chance{half, half, half}, bounds(125000, 216000), bounds(875000, 936000)},
		{[]api.Chance{sure(1), half}, bounds(0, 1), bounds(500000, 600001)},
		{[]api.Chance{half, sure(1)}, bounds(0, 1), bounds(500000, 600001)},
		{[]api.Chance{sure(999999), sure(999999)}, bounds(999998, 999999), bounds(999999, whole)},
		{[]api.Chance{sure(333333), sure(333333)}, bounds(111110, 111111), bounds(555555, 555556)},
		{[]api.Chance{sure(0), half}, sure(0), half},
		{[]api.Chance{sure(whole), half}, half, sure(whole)},
		{[]api.Chance{bounds(0, whole), half}, bounds(0, 600000), bounds(500000, whole)},
		{slices.Repeat([]api.Chance{sure(1)}, api.MaxList), bounds(0, 1), bounds(1, 64)},
		{slices.Repeat([]api.Chance{sure(999999)}, api.MaxList), bounds(999936, 999999), bounds(999999, whole)},
	} {
		checkTogether(t, x.l, x.all, x.some)
	}
}

// P9.2: the bounds are multiplied, and rounded, one after another.
func TestOneAfterAnother(t *testing.T) {
	checkTogether(t, []api.Chance{sure(15), sure(100000), sure(900000)}, bounds(0, 2), bounds(910001, 910002))
	checkTogether(t, []api.Chance{sure(100000), sure(900000), sure(15)}, bounds(1, 2), bounds(910001, 910002))
	checkTogether(t, []api.Chance{sure(700001), sure(700001), sure(700001)}, bounds(343001, 343002), bounds(973000, 973001))
	r := dice(903)
	for range 5000 {
		l := anyChances(r, 8)
		checkTogether(t, l, modelAll(l), modelAny(l))
	}
}

// anyChances returns at most so many chances.
func anyChances(r *rand.Rand, most int) (l []api.Chance) {
	for range r.Intn(most + 1) {
		l = append(l, anyBounds(r))
	}
	return l
}

// badChances are bounds that are not valid.
func badChances() []api.Chance {
	return []api.Chance{
		bounds(-1, 5), bounds(6, 5), bounds(5, whole+1), bounds(whole+1, whole+1), bounds(-1, -1), bounds(-5, whole),
		bounds(math.MinInt64, 5), bounds(5, math.MaxInt64), bounds(math.MaxInt64, math.MinInt64), bounds(1, 0), bounds(0, -1),
	}
}

// P9.2: too many chances, and those that are not valid.
func TestTogetherErrors(t *testing.T) {
	refused := func(l []api.Chance, want api.Errno) {
		t.Helper()
		if c, e := tactics.All(l); c != (api.Chance{}) || e != want {
			t.Errorf("All(%v): %v, error %d, want %d", l, c, e, want)
		}
		if c, e := tactics.Any(l); c != (api.Chance{}) || e != want {
			t.Errorf("Any(%v): %v, error %d, want %d", l, c, e, want)
		}
	}
	for _, bad := range badChances() {
		refused([]api.Chance{bad}, api.ErrArg)
		refused([]api.Chance{sure(0), bad}, api.ErrArg)
		refused([]api.Chance{bad, sure(whole), sure(0)}, api.ErrArg)
		refused(append(make([]api.Chance, api.MaxList-1), bad), api.ErrArg)
		refused(append(make([]api.Chance, api.MaxList), bad), api.ErrMany)
	}
	refused(make([]api.Chance, api.MaxList+1), api.ErrMany)
	refused(make([]api.Chance, 100000), api.ErrMany)
}

// P9.8: for all chances between the bounds of a list, those of All and of Any lie between those for the list.
func TestBetweenBounds(t *testing.T) {
	r := dice(904)
	million := big.NewRat(whole, 1)
	inside := func(c api.Chance, p *big.Rat) bool { // p is a part of 1
		n := new(big.Rat).Mul(p, million)
		return n.Cmp(big.NewRat(c.Lo, 1)) >= 0 && n.Cmp(big.NewRat(c.Hi, 1)) <= 0
	}
	for k := range 3000 {
		l := anyChances(r, 6)
		if k%100 == 0 {
			l = anyChances(r, api.MaxList)
		}
		every, none := big.NewRat(1, 1), big.NewRat(1, 1)
		var chosen []api.Chance
		for _, c := range l {
			p := from(r, c.Lo, c.Hi)
			if r.Intn(3) == 0 {
				p = []int64{c.Lo, c.Hi}[r.Intn(2)]
			}
			chosen = append(chosen, sure(p))
			every.Mul(every, big.NewRat(p, whole))
			none.Mul(none, big.NewRat(whole-p, whole))
		}
		all, _ := tactics.All(l)
		some, _ := tactics.Any(l)
		if !inside(all, every) || !inside(some, none.Sub(big.NewRat(1, 1), none)) {
			t.Errorf("%v: %v and %v, but of %v %v and %v", l, all, some, chosen, every, none)
		}
		narrow, _ := tactics.All(chosen)
		narrowSome, _ := tactics.Any(chosen)
		if !within(narrow, all) || !within(narrowSome, some) {
			t.Errorf("%v: %v and %v, but of %v %v and %v", l, all, some, chosen, narrow, narrowSome)
		}
	}
}

// within reports whether bounds lie between others.
func within(c, wide api.Chance) bool { return wide.Lo <= c.Lo && c.Hi <= wide.Hi }
