package referee_test

import (
	"math"
	"math/rand"
	"slices"
	"testing"

	"roquet/api"
	"roquet/lawn"
	"roquet/referee"
)

// P6.1: direct lines of two balls of which one lies straight to the right of the other one: those of the halves that face each other, and those that pass along them.
func TestDirectFacing(t *testing.T) {
	l := mustDirect(t, disc(0, 0, 4096), disc(100000, 0, 4096))
	for i := range api.RingSides {
		for k := range api.RingSides {
			facing := (i <= 4 || i >= 12) && k >= 4 && k <= 12
			if direct := slices.Contains(l, [2]int{i, k}); direct != facing {
				t.Errorf("the line (%d, %d) is direct: %v", i, k, direct)
			}
		}
	}
	if !slices.IsSortedFunc(l, func(x, y [2]int) int { return slices.Compare(x[:], y[:]) }) {
		t.Errorf("the lines are not in order: %v", l)
	}
}

// P6.1: balls that touch, that are small, and that are as great or as far away as possible.
func TestDirectLimits(t *testing.T) {
	for _, x := range []struct {
		a, b api.Disc
		want int
	}{
		{disc(0, 0, 1), disc(2, 0, 1), 256}, // nothing passes a ring without an inside
		{disc(0, 0, 1), disc(far-1, far-1, 1), 256},
		{disc(0, 0, 3000), disc(6000, 0, 3000), 27}, // one of them, (0, 8), has no length
		{disc(-far+api.MaxBall, 0, api.MaxBall), disc(far-api.MaxBall, 0, api.MaxBall), 81},
		{disc(0, -far+api.MaxBall, api.MaxBall), disc(0, far-api.MaxBall, api.MaxBall), 81},
	} {
		l := mustDirect(t, x.a, x.b)
		if x.a.R > 1 && !slices.Equal(l, modelDirect(x.a, x.b)) {
			t.Errorf("Direct(%v, %v): %v", x.a, x.b, l)
		}
		if len(l) != x.want {
			t.Errorf("Direct(%v, %v): %d lines, %v", x.a, x.b, len(l), l)
		}
	}
}

// pairOf returns two balls that do not overlap, near each other.
func pairOf(r *rand.Rand, l api.Lawn, least, most int64) (api.Disc, api.Disc) {
	for {
		a := api.Disc{At: at(roll(r, 0, l.Wide), roll(r, 0, l.Long)), R: roll(r, least, most)}
		b := api.Disc{At: near(r, a.At, 4*most), R: roll(r, least, most)}
		if _, e := referee.Direct(a, b); e == api.OK {
			return a, b
		}
	}
}

// P6.1: the direct lines of balls of all sorts are those of the second version.
func TestDirectOfAll(t *testing.T) {
	r := dice(61)
	for range 600 {
		a, b := pairOf(r, green(), 100, 1<<roll(r, 7, 14))
		if l := mustDirect(t, a, b); !slices.Equal(l, modelDirect(a, b)) {
			t.Errorf("Direct(%v, %v): %v", a, b, l)
		}
	}
}

// P6.8: the direct lines of two balls are the same both ways, also those of balls whose rings are not convex.
func TestDirectBothWays(t *testing.T) {
	r := dice(60)
	for range 600 {
		a, b := pairOf(r, green(), 1, 1<<roll(r, 1, 14))
		var back [][2]int
		for _, x := range mustDirect(t, b, a) {
			back = append(back, [2]int{x[1], x[0]})
		}
		slices.SortFunc(back, func(x, y [2]int) int { return slices.Compare(x[:], y[:]) })
		if l := mustDirect(t, a, b); !slices.Equal(l, back) {
			t.Errorf("Direct(%v, %v): %v, but the other way %v", a, b, l, back)
		}
	}
}

// behind returns two small balls on both sides of a post, or of nothing.
func behind(r *rand.Rand, l api.Lawn) (api.Disc, api.Disc) {
	posts, _ := lawn.Posts(l)
	for {
		d := posts[r.Intn(len(posts))]
		a := near(r, d.At, 5*d.R)
		b := near(r, at(2*d.At.X-a.X, 2*d.At.Y-a.Y), d.R)
		x, y := api.Disc{At: a, R: roll(r, 100, 2*d.R)}, api.Disc{At: b, R: roll(r, 100, 2*d.R)}
		if _, e := referee.Direct(x, y); e == api.OK {
			return x, y
		}
	}
}

// checkOpen fails if Open and Cut do not return what they should for two balls, and reports whether they are wired.
func checkOpen(t *testing.T, l api.Lawn, a, b api.Disc) bool {
	t.Helper()
	var proof []int
	open, want := [2]int{}, api.ErrWired
	for _, x := range modelDirect(a, b) {
		by := modelCutBy(l, a, b, x)
		if len(by) == 0 {
			open, want = x, api.OK
			break
		}
		proof = append(proof, by[0])
	}
	i, k, e := referee.Open(l, a, b)
	if [2]int{i, k} != open || e != want {
		t.Errorf("Open(%v, %v) on %v: %d %d, error %d, want %v", a, b, l, i, k, e, open)
	}
	cut, e := referee.Cut(l, a, b)
	if want == api.OK && (cut != nil || e != api.ErrNone) || want != api.OK && (!slices.Equal(cut, proof) || e != api.OK) {
		t.Errorf("Cut(%v, %v) on %v: %v, error %d, want %v", a, b, l, cut, e, proof)
	}
	return want != api.OK
}

// P6.1, P6.2, P6.8: Open returns the first line that no post cuts, or Cut the first proof; and both ways it is the same.
func TestOpenOfAll(t *testing.T) {
	r := dice(62)
	wired := 0
	for range 1500 {
		l := anyLawn(r)
		a, b := behind(r, l)
		is := checkOpen(t, l, a, b)
		if is {
			wired++
		}
		if _, _, e := referee.Open(l, b, a); (e == api.ErrWired) != is {
			t.Errorf("%v from %v on %v: wired %v, and the other way %v", b, a, l, is, !is)
		}
	}
	if wired < 300 || wired > 1200 {
		t.Errorf("of 1500 pairs %d are wired", wired)
	}
}

// P6.1: a post that only touches a line does not cut it.
func TestOpenTouched(t *testing.T) {
	// The outermost direct lines of these balls, (0, 0) and (8, 8), are 300 away from the middle of the peg.
	one, other := disc(50000, 90000, 300), disc(50000, 110000, 300)
	for radius, want := range map[int64]api.Errno{300: api.OK, 301: api.ErrWired} {
		l := green()
		l.Peg.R = radius
		if _, _, e := referee.Open(l, one, other); e != want {
			t.Errorf("Open beside a peg of %d: error %d", radius, e)
		}
	}
}

// P6.2: proofs, with numbers that are wrong in one place, too many, or too few.
func TestCheckCut(t *testing.T) {
	one, other := disc(46500, 35000, 300), disc(46500, 45000, 300)
	proof, e := referee.Cut(green(), one, other)
	if e != api.OK || len(proof) == 0 || !slices.Equal(proof, make([]int, len(proof))) {
		t.Fatalf("Cut behind the first wire: %v, error %d", proof, e)
	}
	check := func(name string, l []int, want api.Errno) {
		t.Helper()
		if e := referee.CheckCut(green(), one, other, l); e != want {
			t.Errorf("CheckCut of %s: error %d, not %d", name, e, want)
		}
	}
	check("a proof", proof, api.OK)
	check("nothing", nil, api.ErrEqual)
	check("a number too few", proof[1:], api.ErrEqual)
	check("a number too many", append(slices.Clone(proof), 0), api.ErrEqual)
	check("too many that are wrong", slices.Repeat([]int{-1}, 300), api.ErrEqual)
	for k := range proof {
		for _, n := range []int{1, 4, 5, -1, math.MaxInt, math.MinInt} {
			wrong := slices.Clone(proof)
			wrong[k] = n
			check("a post that does not cut", wrong, api.ErrSum)
		}
	}
}

// P6.2: a list is a proof just if each number is that of a post that cuts; a ball that is not wired has none.
func TestCheckCutOfAll(t *testing.T) {
	r := dice(63)
	others := 0
	for range 400 {
		l := anyLawn(r)
		a, b := behind(r, l)
		numbers, want := []int{}, api.OK
		first, _ := referee.Cut(l, a, b)
		for _, x := range modelDirect(a, b) {
			by := modelCutBy(l, a, b, x)
			if len(by) == 0 {
				by, want = []int{r.Intn(3)}, api.ErrSum
			}
			numbers = append(numbers, by[r.Intn(len(by))])
		}
		if e := referee.CheckCut(l, a, b, numbers); e != want {
			t.Errorf("CheckCut(%v, %v, %v) on %v: error %d, not %d", a, b, numbers, l, e, want)
		}
		if want == api.OK && !slices.Equal(numbers, first) {
			others++
		}
	}
	if others == 0 {
		t.Error("no proof has another post than the first one")
	}
}

// P6.8: with another post, or a greater one, a ball that is wired stays wired.
func TestWiredStays(t *testing.T) {
	r := dice(64)
	more, greater := 0, 0
	for range 4000 {
		l := anyLawn(r)
		a, b := behind(r, l)
		if _, _, e := referee.Open(l, a, b); e != api.ErrWired {
			continue
		}
		changed := l
		if r.Intn(2) == 0 {
			changed.Peg.R += roll(r, 1, 2000)
		} else {
			changed.Hoops = append(slices.Clone(l.Hoops), api.Hoop{X: roll(r, 0, l.Wide), Y: roll(r, 0, l.Long), Gap: 2, Wire: roll(r, 1, 900)})
		}
		if lawn.Check(changed) != api.OK {
			continue
		}
		if len(changed.Hoops) > len(l.Hoops) {
			more++
		} else {
			greater++
		}
		if _, _, e := referee.Open(changed, a, b); e != api.ErrWired {
			t.Errorf("%v from %v is wired on %v, but not on %v", b, a, l, changed)
		}
	}
	if more < 100 || greater < 100 {
		t.Errorf("%d lawns with another post, %d with a greater one", more, greater)
	}
}

// P6.1, P6.2: balls that are not valid.
func TestBadBalls(t *testing.T) {
	good := disc(50000, 30000, ball)
	pairs := [][2]api.Disc{
		{good, good},
		{good, disc(50000+2*ball-1, 30000, ball)}, // they overlap
		{good, disc(50000, 30000, 1)},
	}
	for _, d := range badDiscs() {
		pairs = append(pairs, [2]api.Disc{good, d}, [2]api.Disc{d, good})
	}
	for _, x := range pairs {
		if l, e := referee.Direct(x[0], x[1]); l != nil || e != api.ErrArg {
			t.Errorf("Direct(%v, %v): %v, error %d", x[0], x[1], l, e)
		}
		if i, k, e := referee.Open(green(), x[0], x[1]); i != 0 || k != 0 || e != api.ErrArg {
			t.Errorf("Open(%v, %v): %d %d, error %d", x[0], x[1], i, k, e)
		}
		if l, e := referee.Cut(green(), x[0], x[1]); l != nil || e != api.ErrArg {
			t.Errorf("Cut(%v, %v): %v, error %d", x[0], x[1], l, e)
		}
		if e := referee.CheckCut(green(), x[0], x[1], nil); e != api.ErrArg {
			t.Errorf("CheckCut(%v, %v): error %d", x[0], x[1], e)
		}
	}
	// Those that touch, whose rings reach the limit, or that lie on a post or off the lawn, are valid.
	for _, x := range [][2]api.Disc{
		{good, disc(50000+2*ball, 30000, ball)}, {good, disc(far-5, 0, 5)}, {good, disc(0, 5-far, 5)},
		{good, disc(0, 0, api.MaxBall)}, {good, disc(50000, 100000, ball)}, {good, disc(-9, 300000, 1)},
	} {
		if _, _, e := referee.Open(green(), x[0], x[1]); e != api.OK && e != api.ErrWired {
			t.Errorf("Open(%v, %v): error %d", x[0], x[1], e)
		}
	}
}
