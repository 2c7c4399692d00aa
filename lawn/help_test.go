package lawn_test

import (
	"math"
	"math/big"
	"math/rand"
	"reflect"
	"slices"
	"testing"

	"roquet/api"
	"roquet/lawn"
)

// far is the greatest coordinate of a point.
const far = api.MaxPlace

// ball is the radius of the ball of the examples.
const ball = 2946

// at returns a point.
func at(x, y int64) api.Point { return api.Point{X: x, Y: y} }

// disc returns a disc.
func disc(x, y, r int64) api.Disc { return api.Disc{At: at(x, y), R: r} }

// green returns the lawn of the examples.
func green() api.Lawn {
	return api.Lawn{
		Name: "green", Wide: 100000, Long: 200000, Yard: 5000,
		Hoops: []api.Hoop{{X: 50000, Y: 40000, Gap: 6000, Wire: 500}, {X: 30000, Y: 100000, Gap: 6000, Wire: 500, Along: true}},
		Peg:   disc(50000, 100000, 1200),
		NX:    2, NY: 1,
		Cells: []api.Cell{{Drag: 100}, {Drag: 200, DX: 5, DY: -5}},
	}
}

// small returns a lawn with the shortest sides and the widest yard-line area.
func small() api.Lawn {
	return api.Lawn{
		Name: "s", Wide: api.MinSide, Long: api.MinSide, Yard: api.MinSide / 4,
		Hoops: []api.Hoop{{X: 8000, Y: 8000, Gap: 2, Wire: 1}},
		Peg:   disc(1, 1, 1),
		NX:    1, NY: 1,
		Cells: make([]api.Cell, 1),
	}
}

// largest returns a lawn in which as much as possible is as great as possible.
func largest() api.Lawn {
	l := api.Lawn{
		Name: "a0123456789z12345678", Wide: far, Long: far, Yard: far / 4,
		Peg: disc(far-api.MaxWire, far-api.MaxWire, api.MaxWire),
		NX:  api.MaxCells, NY: api.MaxCells,
		Cells: slices.Repeat([]api.Cell{{Drag: api.MaxDrag, DX: -api.MaxSlope, DY: -api.MaxSlope}}, api.MaxCells*api.MaxCells),
	}
	for k := range int64(api.MaxHoops) {
		l.Hoops = append(l.Hoops, api.Hoop{X: 1 << 20, Y: (k + 1) << 17, Gap: api.MaxGap, Wire: api.MaxWire, Along: k%2 == 1})
	}
	return l
}

// with returns a lawn that was changed.
func with(l api.Lawn, change func(*api.Lawn)) api.Lawn {
	change(&l)
	return l
}

// copied returns a lawn that shares no memory with l.
func copied(l api.Lawn) api.Lawn {
	l.Hoops, l.Cells = slices.Clone(l.Hoops), slices.Clone(l.Cells)
	return l
}

// same reports whether two lawns are the same; neither may have empty lists.
func same(a, b api.Lawn) bool { return reflect.DeepEqual(a, b) }

// badPoints are points each of which has an error in one coordinate.
func badPoints() []api.Point {
	return []api.Point{
		at(far+1, 0), at(0, far+1), at(-far-1, 0), at(0, -far-1),
		at(math.MaxInt64, 0), at(0, math.MinInt64), at(math.MinInt64, math.MaxInt64),
	}
}

// badRadii are radii that no ball has.
func badRadii() []int64 {
	return []int64{0, -1, api.MaxBall + 1, math.MaxInt64, math.MinInt64}
}

// dice returns numbers that are the same in each run.
func dice() *rand.Rand { return rand.New(rand.NewSource(2)) }

// roll returns a number from a to b.
func roll(r *rand.Rand, a, b int64) int64 { return a + r.Int63n(b-a+1) }

// near returns a point at most n away from p in each coordinate.
func near(r *rand.Rand, p api.Point, n int64) api.Point {
	return at(p.X+roll(r, -n, n), p.Y+roll(r, -n, n))
}

// anyLawn returns a valid lawn.
func anyLawn(r *rand.Rand) api.Lawn {
	for {
		l := api.Lawn{Name: "l" + string(rune('a'+r.Intn(26))), Wide: roll(r, api.MinSide, 1<<18), Long: roll(r, api.MinSide, 1<<18)}
		l.Yard = roll(r, 0, min(l.Wide, l.Long)/4)
		for range roll(r, 1, api.MaxHoops) {
			l.Hoops = append(l.Hoops, api.Hoop{X: roll(r, 0, l.Wide), Y: roll(r, 0, l.Long), Gap: 2 * roll(r, 1, 4000), Wire: roll(r, 1, 1000), Along: r.Intn(2) == 0})
		}
		l.Peg = disc(roll(r, 0, l.Wide), roll(r, 0, l.Long), roll(r, 1, 2000))
		l.NX, l.NY = 1+r.Intn(api.MaxCells), 1+r.Intn(api.MaxCells)
		for range l.NX * l.NY {
			l.Cells = append(l.Cells, api.Cell{Drag: roll(r, 0, api.MaxDrag), DX: roll(r, -api.MaxSlope, api.MaxSlope), DY: roll(r, -api.MaxSlope, api.MaxSlope)})
		}
		if lawn.Check(l) == api.OK {
			return l
		}
	}
}

// someOthers returns balls near p, which may touch each other.
func someOthers(r *rand.Rand, p api.Point, n int64) []api.Disc {
	var l []api.Disc
	for range r.Intn(api.MaxOthers + 1) {
		l = append(l, api.Disc{At: near(r, p, n), R: roll(r, 1, api.MaxBall)})
	}
	return l
}

// rat returns n / d.
func rat(n, d int64) *big.Rat { return big.NewRat(n, d) }

// squareFromWay returns the square of the distance of p from the way from a to b.
func squareFromWay(a, b, p api.Point) *big.Rat {
	vx, vy, wx, wy := b.X-a.X, b.Y-a.Y, p.X-a.X, p.Y-a.Y
	share := rat(0, 1)
	if a != b {
		share = rat(vx*wx+vy*wy, vx*vx+vy*vy)
	}
	if share.Sign() < 0 {
		share = rat(0, 1)
	}
	if share.Cmp(rat(1, 1)) > 0 {
		share = rat(1, 1)
	}
	square := rat(0, 1)
	for _, c := range [][2]int64{{vx, wx}, {vy, wy}} {
		off := new(big.Rat).Mul(share, rat(c[0], 1))
		off.Sub(off, rat(c[1], 1))
		square.Add(square, off.Mul(off, off))
	}
	return square
}

// onWay returns, by the definition, the numbers of the discs that a ball touches on its way from a to b.
func onWay(a, b api.Point, r int64, discs []api.Disc) []int {
	var l []int
	for k, d := range discs {
		if squareFromWay(a, b, d.At).Cmp(rat((r+d.R)*(r+d.R), 1)) < 0 {
			l = append(l, k)
		}
	}
	return l
}

// postsOf returns the posts of a lawn, and fails if there are none.
func postsOf(t *testing.T, l api.Lawn) []api.Disc {
	t.Helper()
	p, e := lawn.Posts(l)
	if e != api.OK {
		t.Fatalf("Posts(%v): error %d", l, e)
	}
	return p
}

// touchedBy returns what a ball touches, and fails if there is an error.
func touchedBy(t *testing.T, l api.Lawn, p api.Point, r int64, others []api.Disc) []int {
	t.Helper()
	n, e := lawn.Touched(l, p, r, others)
	if e != api.OK {
		t.Fatalf("Touched at %v by %d: error %d", p, r, e)
	}
	return n
}

// inWayOf returns what a ball touches on its way, and fails if there is an error.
func inWayOf(t *testing.T, l api.Lawn, a, b api.Point, r int64, others []api.Disc) []int {
	t.Helper()
	n, e := lawn.InWay(l, a, b, r, others)
	if e != api.OK {
		t.Fatalf("InWay from %v to %v by %d: error %d", a, b, r, e)
	}
	return n
}

// standOf returns how a ball stands to a hoop, and fails if there is an error.
func standOf(t *testing.T, l api.Lawn, hoop int, forward bool, p api.Point, r int64) int {
	t.Helper()
	n, e := lawn.Stand(l, hoop, forward, p, r)
	if e != api.OK {
		t.Fatalf("Stand at %v by %d to the hoop %d: error %d", p, r, hoop, e)
	}
	return n
}

// subset reports whether all numbers of a are numbers of b.
func subset(a, b []int) bool {
	for _, n := range a {
		if !slices.Contains(b, n) {
			return false
		}
	}
	return true
}
