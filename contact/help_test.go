package contact_test

import (
	"math"
	"math/big"
	"math/rand"
	"testing"

	"roquet/api"
	"roquet/contact"
)

const (
	far  = api.MaxPlace    // the greatest coordinate of a place
	fast = api.MaxMomentum // the greatest number of a momentum
)

// at returns a place, or a momentum.
func at(x, y int64) api.Point { return api.Point{X: x, Y: y} }

// disc returns a disc.
func disc(x, y, r int64) api.Disc { return api.Disc{At: at(x, y), R: r} }

// ball returns the ball of the examples.
func ball() api.Ball { return api.Ball{Mass: 450, Radius: 2944} }

// lively returns the bounce of the examples.
func lively() api.Bounce { return api.Bounce{Rebound: 800} }

// motion returns a motion without a rest.
func motion(p, m api.Point) api.Motion { return api.Motion{At: p, M: m} }

// plus returns p + q.
func plus(p, q api.Point) api.Point { return at(p.X+q.X, p.Y+q.Y) }

// minus returns p - q.
func minus(p, q api.Point) api.Point { return at(p.X-q.X, p.Y-q.Y) }

// amount returns n without its sign.
func amount(n int64) int64 { return max(n, -n) }

// badNumbers are numbers that are above, or below, all that is possible anywhere.
func badNumbers() []int64 {
	return []int64{math.MaxInt64, math.MinInt64, math.MinInt64 + 1, 1 << 40, -1 << 40}
}

// dice returns numbers that are the same in each run.
func dice() *rand.Rand { return rand.New(rand.NewSource(3)) }

// roll returns a number from a to b.
func roll(r *rand.Rand, a, b int64) int64 { return a + r.Int63n(b-a+1) }

// anyBall returns a ball that is valid.
func anyBall(r *rand.Rand) api.Ball {
	return api.Ball{Mass: roll(r, api.MinMass, api.MaxMass), Radius: roll(r, api.MinRadius, api.MaxGirth)}
}

// anyBounce returns a bounce that is valid; often without Drag, or at a limit.
func anyBounce(r *rand.Rand) api.Bounce {
	x := api.Bounce{Rebound: roll(r, 0, api.MaxRebound), Drag: roll(r, 0, api.MaxLost)}
	switch r.Intn(6) {
	case 0:
		x.Drag = 0
	case 1:
		x.Rebound = api.MaxRebound
	case 2:
		x = api.Bounce{Rebound: api.MaxRebound}
	case 3:
		x = api.Bounce{Rebound: api.MaxRebound, Drag: api.MaxLost}
	}
	return x
}

// anyMomentum returns a momentum of any size, great or small.
func anyMomentum(r *rand.Rand) api.Point {
	size := int64(1) << roll(r, 0, 24)
	return at(roll(r, -size, size), roll(r, -size, size))
}

// anyRest returns a rest that is possible for a ball.
func anyRest(r *rand.Rand, b api.Ball) api.Point {
	return at(roll(r, -32*b.Mass, 32*b.Mass-1), roll(r, -32*b.Mass, 32*b.Mass-1))
}

// anyMotion returns a motion of a ball at a place.
func anyMotion(r *rand.Rand, b api.Ball, p api.Point) api.Motion {
	return api.Motion{At: p, M: anyMomentum(r), Rest: anyRest(r, b)}
}

// beside returns a place that is in contact with p, for things of the radii a and b.
func beside(r *rand.Rand, p api.Point, a, b int64) api.Point {
	angle := r.Float64() * 2 * math.Pi
	if r.Intn(5) == 0 {
		angle = float64(r.Intn(8)) * math.Pi / 4
	}
	for {
		length := float64(a+b) * (0.9375 + 0.0625*r.Float64())
		n := at(int64(length*math.Cos(angle)), int64(length*math.Sin(angle)))
		if inContact(n, a+b) {
			return plus(p, n)
		}
	}
}

// graze returns a momentum that goes across the way n, but for a few units.
func graze(r *rand.Rand, n api.Point, off int64) api.Point {
	size := int64(1) << roll(r, 0, 23)
	t := roll(r, -size, size)
	length := max(amount(n.X), amount(n.Y))
	return plus(at(-n.Y*t/length, n.X*t/length), at(roll(r, -off, off), roll(r, -off, off)))
}

// pair is two balls that may bounce off each other.
type pair struct {
	a, b api.Ball
	s, t api.Motion
	x    api.Bounce
}

// anyPair returns two balls that are in contact, but need not approach.
func anyPair(r *rand.Rand) pair {
	p := pair{a: anyBall(r), b: anyBall(r), x: anyBounce(r)}
	p.s = anyMotion(r, p.a, at(roll(r, -far+9000, far-9000), roll(r, -far+9000, far-9000)))
	p.t = anyMotion(r, p.b, beside(r, p.s.At, p.a.Radius, p.b.Radius))
	switch r.Intn(3) {
	case 0:
		p.s.M = graze(r, p.way(), 40)
	case 1:
		p.t.M = at(0, 0)
	}
	return p
}

// way returns the way from the first ball to the second one.
func (p pair) way() api.Point { return minus(p.t.At, p.s.At) }

// urge returns the urge of the balls.
func (p pair) urge() api.Point {
	return at(p.b.Mass*p.s.M.X-p.a.Mass*p.t.M.X, p.b.Mass*p.s.M.Y-p.a.Mass*p.t.M.Y)
}

// approach reports whether the balls approach.
func (p pair) approach() bool { return big2(p.urge(), p.way()).Sign() > 0 }

// kick returns the kick of the balls, and its error.
func (p pair) kick() (api.Point, api.Errno) { return contact.Kick(p.a, p.s, p.b, p.t, p.x) }

// bounce returns the motions behind a bounce of the balls, and its error.
func (p pair) bounce() (api.Motion, api.Motion, api.Errno) {
	return contact.Bounce(p.a, p.s, p.b, p.t, p.x)
}

// num returns n.
func num(n int64) *big.Int { return big.NewInt(n) }

// sum returns the sum of numbers.
func sum(l ...*big.Int) *big.Int {
	s := num(0)
	for _, n := range l {
		s.Add(s, n)
	}
	return s
}

// less returns a - b.
func less(a, b *big.Int) *big.Int { return new(big.Int).Sub(a, b) }

// times returns the product of numbers.
func times(l ...*big.Int) *big.Int {
	p := num(1)
	for _, n := range l {
		p.Mul(p, n)
	}
	return p
}

// big2 returns p.X q.X + p.Y q.Y.
func big2(p, q api.Point) *big.Int {
	return sum(times(num(p.X), num(q.X)), times(num(p.Y), num(q.Y)))
}

// inContact reports whether two things that are away from each other by n, and whose radii are together reach, are in contact.
func inContact(n api.Point, reach int64) bool {
	square, most := big2(n, n), times(num(reach), num(reach))
	return square.Cmp(most) <= 0 && times(num(256), square).Cmp(times(num(225), most)) >= 0
}

// kickOf returns the kick by its definition, in numbers of any size, and how often it was halved; the weight is that of both balls, or 1.
func kickOf(n, w api.Point, weight int64, x api.Bounce) (api.Point, int) {
	square := big2(n, n)
	h := new(big.Int).Div(big2(w, n), square) // rounded down, as the square is above 0
	k := new(big.Int).Quo(less(times(num(w.Y), num(n.X)), times(num(w.X), num(n.Y))), square)
	up, drag, below := num(1000+x.Rebound), num(x.Drag), num(1000*weight)
	kx := new(big.Int).Quo(less(times(up, num(n.X), h), times(drag, num(n.Y), k)), below)
	ky := new(big.Int).Quo(sum(times(up, num(n.Y), h), times(drag, num(n.X), k)), below)
	halved := 0
	for {
		by := at(kx.Int64(), ky.Int64())
		if times(num(weight), big2(by, by)).Cmp(times(num(2), big2(w, by))) <= 0 {
			return by, halved
		}
		kx.Quo(kx, num(2))
		ky.Quo(ky, num(2))
		halved++
	}
}

// workOf returns the work in two balls by its definition.
func workOf(a api.Ball, s api.Motion, b api.Ball, t api.Motion) *big.Int {
	return sum(times(num(b.Mass), big2(s.M, s.M)), times(num(a.Mass), big2(t.M, t.M)))
}

// totalOf returns the sum of all momenta, and fails if there is none.
func totalOf(t *testing.T, l []api.Ball, s []api.Motion) api.Point {
	t.Helper()
	p, e := contact.Total(l, s)
	if e != api.OK {
		t.Fatalf("Total(%v, %v): error %d", l, s, e)
	}
	return p
}
