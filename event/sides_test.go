package event_test

import (
	"math"
	"slices"
	"testing"

	"roquet/api"
	"roquet/event"
)

// badSheets are sheets each of which is not valid for one thing.
func badSheets() []api.Score {
	var l []api.Score
	for _, match := range []int{0, 5, -1} {
		for _, n := range []int{-1, math.MinInt} {
			l = append(l, sheet(match, n, 0, 5))
		}
		for _, n := range []int{-1, 2, math.MinInt, math.MaxInt} {
			l = append(l, sheet(match, 1, n, 5))
		}
		for _, n := range []int{0, -1, api.MaxPlus + 1, math.MinInt, math.MaxInt} {
			l = append(l, sheet(match, 1, 1, n))
		}
	}
	return append(l, api.Score{})
}

// checkCounts fails if the sheet that counts for a match is not this one.
func checkCounts(t *testing.T, l []api.Score, match int, want api.Score) {
	t.Helper()
	if s, e := event.Counts(l, match); s != want || e != api.OK {
		t.Errorf("Counts(%s, %d): %v, error %d, want %v", brief(l), match, s, e, want)
	}
}

// P11.3: the greatest Version, then the greatest Winner, and then the greatest Plus.
func TestCounts(t *testing.T) {
	r := dice(1103)
	for _, x := range []struct {
		l    []api.Score
		want api.Score
	}{
		{[]api.Score{sheet(3, 0, 0, 1)}, sheet(3, 0, 0, 1)},
		{[]api.Score{sheet(3, 0, 0, 1), sheet(3, 0, 0, 1)}, sheet(3, 0, 0, 1)},
		{[]api.Score{sheet(3, 2, 0, 1), sheet(3, 1, 1, 26)}, sheet(3, 2, 0, 1)},
		{[]api.Score{sheet(3, 2, 0, 26), sheet(3, 2, 1, 1), sheet(3, 1, 1, 26)}, sheet(3, 2, 1, 1)},
		{[]api.Score{sheet(3, 2, 1, 5), sheet(3, 2, 1, 6), sheet(3, 2, 0, 26)}, sheet(3, 2, 1, 6)},
		{[]api.Score{sheet(3, 2, 0, 5), sheet(3, 2, 0, 26)}, sheet(3, 2, 0, 26)},
		{[]api.Score{sheet(3, math.MaxInt, 0, 1), sheet(3, math.MaxInt-1, 1, 26)}, sheet(3, math.MaxInt, 0, 1)},
		{[]api.Score{sheet(3, 0, 0, 1), sheet(2, 7, 1, 26), sheet(4, 8, 1, 26), sheet(-3, 9, 1, 26)}, sheet(3, 0, 0, 1)},
	} {
		for range 10 {
			checkCounts(t, shuffled(r, x.l), 3, x.want)
		}
	}
	for _, match := range []int{-1, math.MinInt, math.MaxInt, 63} {
		checkCounts(t, []api.Score{sheet(0, 1, 0, 2), sheet(match, 0, 1, 26)}, match, sheet(match, 0, 1, 26))
	}
	checkCounts(t, slices.Repeat([]api.Score{sheet(0, 1, 0, 2)}, api.MaxScores), 0, sheet(0, 1, 0, 2))
}

// P11.3: any sheets against the second version.
func TestCountsModel(t *testing.T) {
	r := dice(11030)
	for range 1000 {
		l := anySheets(r, 30, 5)
		for match := -2; match <= 7; match++ {
			want, ok := modelCounts(l, match)
			if s, e := event.Counts(l, match); s != want || (e == api.OK) != ok || e != api.OK && e != api.ErrNone {
				t.Errorf("Counts(%v, %d): %v, error %d, want %v, %v", l, match, s, e, want, ok)
			}
		}
	}
}

// P11.2, P11.3: no sheet for the match, and sheets that are not valid.
func TestCountsErrors(t *testing.T) {
	for _, match := range []int{0, 2, -1, math.MinInt, math.MaxInt} {
		for _, l := range [][]api.Score{nil, {}, {sheet(1, 0, 0, 1), sheet(3, 0, 0, 1)}} {
			if s, e := event.Counts(l, match); s != (api.Score{}) || e != api.ErrNone {
				t.Errorf("Counts(%v, %d): %v, error %d, want ErrNone", l, match, s, e)
			}
		}
	}
	for _, bad := range badSheets() {
		for _, l := range [][]api.Score{{bad}, {sheet(0, 0, 0, 1), bad}, {bad, sheet(0, 0, 0, 1)}} {
			for _, match := range []int{0, 7} {
				if s, e := event.Counts(l, match); s != (api.Score{}) || e != api.ErrArg {
					t.Errorf("Counts(%v, %d): %v, error %d, want ErrArg", l, match, s, e)
				}
			}
		}
		many := append(slices.Repeat([]api.Score{sheet(0, 0, 0, 1)}, api.MaxScores), bad)
		if s, e := event.Counts(many, 0); s != (api.Score{}) || e != api.ErrMany {
			t.Errorf("Counts of %d sheets: %v, error %d, want ErrMany", len(many), s, e)
		}
	}
}

// checkSides fails if the sides of a draw are not these, or its champion is not this one; open if there is none.
func checkSides(t *testing.T, slots []int, l []api.Score, want [][2]int, champion int) {
	t.Helper()
	if sides := mustSides(t, slots, l); !slices.Equal(sides, want) {
		t.Errorf("Sides(%v, %s): %v, want %v", slots, brief(l), sides, want)
	}
	wanted := api.OK
	if champion == open {
		champion, wanted = 0, api.ErrNone
	}
	if p, e := event.Champion(slots, l); p != champion || e != wanted {
		t.Errorf("Champion(%v, %s): %d, error %d, want %d, error %d", slots, brief(l), p, e, champion, wanted)
	}
}

// P11.4: draws of a few players, match by match.
func TestSides(t *testing.T) {
	two, four := []int{7, 3}, []int{7, 3, 1, 5}
	upper, lower := sheet(0, 0, 0, 5), sheet(0, 0, 1, 5)
	checkSides(t, two, nil, [][2]int{{7, 3}}, open)
	checkSides(t, two, []api.Score{upper}, [][2]int{{7, 3}}, 7)
	checkSides(t, two, []api.Score{lower}, [][2]int{{7, 3}}, 3)
	checkSides(t, two, []api.Score{upper, lower}, [][2]int{{7, 3}}, 3)
	checkSides(t, []int{0, bye}, nil, [][2]int{{0, bye}}, 0)
	checkSides(t, []int{bye, 1000}, nil, [][2]int{{bye, 1000}}, 1000)
	checkSides(t, four, []api.Score{sheet(1, 0, 1, 5)}, [][2]int{{7, 3}, {1, 5}, {open, 5}}, open)
	checkSides(t, four, []api.Score{upper}, [][2]int{{7, 3}, {1, 5}, {7, open}}, open)
	checkSides(t, four, []api.Score{lower, sheet(1, 0, 0, 5)}, [][2]int{{7, 3}, {1, 5}, {3, 1}}, open)
	checkSides(t, four, []api.Score{lower, sheet(1, 0, 0, 5), sheet(2, 0, 1, 5)}, [][2]int{{7, 3}, {1, 5}, {3, 1}}, 1)
}

// P11.4: a Bye loses whatever a sheet says, a sheet for a match of which a side is open waits, and one for no match is left alone.
func TestSidesThatWait(t *testing.T) {
	four := []int{7, 3, 1, 5}
	last := sheet(2, 0, 1, 5)
	checkSides(t, four, []api.Score{last}, [][2]int{{7, 3}, {1, 5}, {open, open}}, open)
	checkSides(t, four, []api.Score{last, sheet(1, 0, 1, 5)}, [][2]int{{7, 3}, {1, 5}, {open, 5}}, open)
	checkSides(t, four, []api.Score{last, sheet(0, 0, 1, 5)}, [][2]int{{7, 3}, {1, 5}, {3, open}}, open)
	checkSides(t, four, []api.Score{last, sheet(0, 0, 1, 5), sheet(1, 0, 1, 5)}, [][2]int{{7, 3}, {1, 5}, {3, 5}}, 5)
	for winner := range 2 {
		l := []api.Score{sheet(0, 0, winner, 5), sheet(1, 0, winner, 5)}
		checkSides(t, []int{0, bye, bye, 1}, l, [][2]int{{0, bye}, {bye, 1}, {0, 1}}, open)
		checkSides(t, []int{0, bye, bye, 1}, append(l, last), [][2]int{{0, bye}, {bye, 1}, {0, 1}}, 1)
		checkSides(t, []int{0, bye}, l, [][2]int{{0, bye}}, 0)
		checkSides(t, []int{bye, 8}, l, [][2]int{{bye, 8}}, 8)
	}
	strange := []api.Score{sheet(3, 0, 0, 5), sheet(-1, 0, 0, 5), sheet(math.MaxInt, 0, 0, 5), sheet(math.MinInt, 0, 0, 5)}
	checkSides(t, four, strange, [][2]int{{7, 3}, {1, 5}, {open, open}}, open)
	checkSides(t, []int{0, 1}, []api.Score{sheet(1, 0, 0, 5), sheet(2, 0, 0, 5)}, [][2]int{{0, 1}}, open)
}

// P11.4: any draw with any sheets against the second version; in some of them all matches are played.
func TestSidesModel(t *testing.T) {
	r := dice(1104)
	champions := 0
	for range 3000 {
		slots := anySlots(r, api.MaxField)
		l := anySheets(r, 150, len(slots))
		if r.Intn(2) == 0 {
			for m := range slots {
				l = append(l, sheet(m, r.Intn(5), r.Intn(2), 7))
			}
		}
		sides, champion := modelSides(slots, l)
		checkSides(t, slots, l, sides, champion)
		if champion != open {
			champions++
		}
	}
	if champions < 1000 || champions > 2900 {
		t.Errorf("%d champions", champions)
	}
}

// P11.2, P11.4: draws and sheets that are not valid.
func TestSidesErrors(t *testing.T) {
	refused := func(slots []int, l []api.Score, want api.Errno) {
		t.Helper()
		if sides, e := event.Sides(slots, l); len(sides) > 0 || e != want {
			t.Errorf("Sides(%s, %s): %v, error %d, want %d", brief(slots), brief(l), sides, e, want)
		}
		if p, e := event.Champion(slots, l); p != 0 || e != want {
			t.Errorf("Champion(%s, %s): %d, error %d, want %d", brief(slots), brief(l), p, e, want)
		}
	}
	good := sheet(0, 0, 0, 1)
	many := slices.Repeat([]api.Score{good}, api.MaxScores+1)
	manyBad := slices.Repeat([]api.Score{{}}, api.MaxScores+1)
	for _, x := range badSlots() {
		for _, l := range [][]api.Score{nil, {good}, many, manyBad, {{}}} {
			refused(x.slots, l, x.want)
		}
	}
	for _, slots := range [][]int{{7, 3}, {0, bye, bye, 1}, numbers(api.MaxField)} {
		refused(slots, many, api.ErrMany)
		refused(slots, manyBad, api.ErrMany)
		for _, bad := range badSheets() {
			refused(slots, []api.Score{bad}, api.ErrArg)
			refused(slots, []api.Score{good, bad, good}, api.ErrArg)
			refused(slots, append(slices.Clone(many[:api.MaxScores-1]), bad), api.ErrArg)
		}
		if _, e := event.Sides(slots, many[:api.MaxScores]); e != api.OK {
			t.Errorf("Sides of %v with %d sheets: error %d", slots, api.MaxScores, e)
		}
	}
}
