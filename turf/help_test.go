package turf_test

import (
	"math"
	"math/big"
	"math/rand"
	"testing"

	"roquet/api"
	"roquet/turf"
)

// far is the greatest coordinate of a valid place.
const far = api.MaxPlace

// at returns a place.
func at(x, y int64) api.Point { return api.Point{X: x, Y: y} }

// disc returns a disc.
func disc(x, y, r int64) api.Disc { return api.Disc{At: at(x, y), R: r} }

// badPlaces are places each of which is not valid in one coordinate.
func badPlaces() []api.Point {
	return []api.Point{
		at(far+1, 0), at(0, far+1), at(-far-1, 0), at(0, -far-1),
		at(math.MaxInt64, 0), at(0, math.MinInt64), at(math.MinInt64, math.MaxInt64),
	}
}

// badDiscs are discs each of which is not valid in one number.
func badDiscs() []api.Disc {
	l := []api.Disc{disc(0, 0, 0), disc(0, 0, -1), disc(0, 0, api.MaxRadius+1), disc(0, 0, math.MaxInt64), disc(0, 0, math.MinInt64)}
	for _, p := range badPlaces() {
		l = append(l, api.Disc{At: p, R: 5})
	}
	return l
}

// dice returns numbers that are the same in each run.
func dice() *rand.Rand { return rand.New(rand.NewSource(64)) }

// between returns a number from a to b.
func between(r *rand.Rand, a, b int64) int64 { return a + r.Int63n(b-a+1) }

// near returns a place whose coordinates are at most n away from 0.
func near(r *rand.Rand, n int64) api.Point { return at(between(r, -n, n), between(r, -n, n)) }

// plus returns the place p moved by the way v.
func plus(p, v api.Point) api.Point { return at(p.X+v.X, p.Y+v.Y) }

// rat returns n / d.
func rat(n, d int64) *big.Rat { return big.NewRat(n, d) }

// sum returns a + b.
func sum(a, b *big.Rat) *big.Rat { return new(big.Rat).Add(a, b) }

// times returns a b.
func times(a, b *big.Rat) *big.Rat { return new(big.Rat).Mul(a, b) }

// minus returns a - b.
func minus(a, b *big.Rat) *big.Rat { return new(big.Rat).Sub(a, b) }

// spot is a place that need not be a whole one.
type spot struct{ x, y *big.Rat }

// along returns the spot at the share t of the segment from a to b.
func along(a, b api.Point, t *big.Rat) spot {
	return spot{
		sum(rat(a.X, 1), times(t, rat(b.X-a.X, 1))),
		sum(rat(a.Y, 1), times(t, rat(b.Y-a.Y, 1))),
	}
}

// squareTo returns the square of the distance of s and p.
func (s spot) squareTo(p api.Point) *big.Rat {
	x, y := minus(s.x, rat(p.X, 1)), minus(s.y, rat(p.Y, 1))
	return sum(times(x, x), times(y, y))
}

// leftOf tells whether s is to the left of the way from a to b (1), to the right (-1) or in line (0).
func (s spot) leftOf(a, b api.Point) int {
	x, y := minus(s.x, rat(a.X, 1)), minus(s.y, rat(a.Y, 1))
	return minus(times(rat(b.X-a.X, 1), y), times(rat(b.Y-a.Y, 1), x)).Sign()
}

// squareOf returns the square of two places, and fails if there is none.
func squareOf(t *testing.T, a, b api.Point) int64 {
	t.Helper()
	n, e := turf.Square(a, b)
	if e != api.OK {
		t.Fatalf("Square(%v, %v): error %d", a, b, e)
	}
	return n
}
