package referee_test

import (
	"testing"

	"roquet/api"
	"roquet/lawn"
	"roquet/referee"
)

// P6.7: places: where the ball lay, beside what it touches, and none.
func TestReplace(t *testing.T) {
	none := api.Point{}
	for _, x := range []struct {
		name   string
		p      api.Point
		others []api.Disc
		want   api.Point
	}{
		{"it may lie there", at(50000, 70000), nil, at(50000, 70000)},
		{"a ball that it only touches with its border", at(50000, 70000), []api.Disc{disc(50000, 70000+2*ball, ball)}, at(50000, 70000)},
		{"a ball that is too near by a unit", at(50000, 70000), []api.Disc{disc(50000, 70000+2*ball-1, ball)}, at(50000, 69997)},
		{"a ball of another radius", at(50000, 70000), []api.Disc{disc(50100, 70000, 100)}, at(47052, 70000)},
		{"a ball in the same place", at(50000, 70000), []api.Disc{disc(50000, 70000, ball)}, at(55894, 70000)},
		{"a ball in the same place, of another radius", at(50000, 70000), []api.Disc{disc(50000, 70000, 1000)}, at(53948, 70000)},
		{"two on both sides", at(50000, 70000), []api.Disc{disc(50000, 75000, ball), disc(50000, 65000, ball)}, none},
		{"two that are in each other's way", at(50000, 70000), []api.Disc{disc(50000, 75890, ball), disc(44110, 70000, ball)}, none},
		{"two of which both would do", at(50000, 70000), []api.Disc{disc(50000, 72000, 10), disc(50002, 72000, 10)}, at(50000, 69042)},
		{"both of them in the other order", at(50000, 70000), []api.Disc{disc(50002, 72000, 10), disc(50000, 72000, 10)}, at(49999, 69042)},
		{"two of which the second one would do", at(50000, 70000), []api.Disc{disc(50000, 71000, ball), disc(50000, 60000, ball), disc(52000, 71000, 6000)}, at(43997, 66998)},
		{"an other one that it does not touch", at(50000, 70000), []api.Disc{disc(90000, 90000, ball), disc(50000, 71000, ball)}, at(50000, 65106)},
		{"a post alone", at(50000, 100500), nil, none},
		{"a wire alone", at(46500, 40000), nil, none},
		{"off the lawn", at(-1, 70000), nil, none},
		{"off the lawn, with a ball far away", at(-1, 70000), []api.Disc{disc(50000, 71000, ball)}, none},
		{"off the lawn, and beside a ball back on it", at(-1, 70000), []api.Disc{disc(-3000, 70000, ball)}, at(2894, 70000)},
		{"beside a ball off the lawn", at(1000, 70000), []api.Disc{disc(2000, 70000, ball)}, none},
		{"a post, and beside a ball", at(50000, 99000), []api.Disc{disc(50000, 100000, ball)}, at(50000, 94106)},
		{"beside a ball on a post", at(50000, 95000), []api.Disc{disc(50000, 94000, ball)}, none},
		{"the corner", at(0, 0), []api.Disc{disc(0, 0, ball)}, at(5894, 0)},
	} {
		want := api.OK
		if x.want == none {
			want = api.ErrPlan
		}
		if p, e := referee.Replace(green(), x.p, ball, x.others); p != x.want || e != want {
			t.Errorf("Replace with %s: %v, error %d", x.name, p, e)
		}
	}
}

// P6.7: a place beside a ball that is beyond the limit is none, although (0, 0) is free.
func TestReplaceOver(t *testing.T) {
	for _, x := range []struct {
		p     api.Point
		other api.Disc
	}{
		{at(far, 90000), disc(far, 90000, ball)},
		{at(far, 90000), disc(far-100, 90000, ball)},
		{at(90000, far), disc(90000, far-100, ball)},
		{at(-far, 90000), disc(100-far, 90000, ball)},
	} {
		if p, e := referee.Replace(wide(), x.p, ball, []api.Disc{x.other}); p != (api.Point{}) || e != api.ErrPlan {
			t.Errorf("Replace at %v: %v, error %d", x.p, p, e)
		}
	}
	if p, e := referee.Replace(wide(), at(far, 90000), ball, []api.Disc{disc(far-100, 90000, 10), disc(far, 90100, ball)}); p != at(far, 84206) || e != api.OK {
		t.Errorf("Replace beside the second ball: %v, error %d", p, e)
	}
	if p, e := referee.Replace(wide(), at(far-50000, 90000), api.MaxBall, []api.Disc{disc(far-50000, 90000, api.MaxBall)}); p != at(far-50000+2*api.MaxBall+2, 90000) || e != api.OK {
		t.Errorf("Replace of the greatest ball: %v, error %d", p, e)
	}
}

// P6.7, P6.13: places are those of the second version; a ball may lie there, and is replaced where it was if it may lie there.
func TestReplaceOfAll(t *testing.T) {
	r := dice(73)
	var stays, goes, none int
	for range 6000 {
		l := green()
		p := []api.Point{at(50000, 70000), at(50000, 98000), at(46000, 37000), at(1000, 1000), at(99000, 60000)}[r.Intn(5)]
		var others []api.Disc
		for range r.Intn(5) {
			others = append(others, api.Disc{At: near(r, p, 8000), R: roll(r, 1, 3500)})
		}
		if len(others) > 0 && r.Intn(8) == 0 {
			others[0].At = p
		}
		radius := roll(r, 1, 3500)
		place, e := referee.Replace(l, p, radius, others)
		want, is := modelReplace(l, p, radius, others)
		if place != want || (e == api.OK) != is || !is && e != api.ErrPlan {
			t.Errorf("Replace(%v, %d, %v): %v, error %d, want %v", p, radius, others, place, e, want)
		}
		may, _ := lawn.May(l, place, radius, others)
		was, _ := lawn.May(l, p, radius, others)
		switch {
		case e == api.OK && !may, was && place != p:
			t.Errorf("Replace(%v, %d, %v): %v", p, radius, others, place)
		case was:
			stays++
		case is:
			goes++
		default:
			none++
		}
	}
	if stays < 500 || goes < 500 || none < 500 {
		t.Errorf("%d balls stay, %d do not, %d have no place", stays, goes, none)
	}
}
