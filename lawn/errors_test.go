package lawn_test

import (
	"math"
	"reflect"
	"slices"
	"testing"

	"roquet/api"
	"roquet/lawn"
)

// arguments are all arguments that a function of the package may have; each function takes what it needs.
type arguments struct {
	l      api.Lawn
	hoop   int
	a, b   api.Point
	r      int64
	others []api.Disc
}

// fault is an argument that is not possible, and the error for it.
type fault struct {
	name  string
	spoil func(*arguments)
	error api.Errno
}

// call is a function of the package: its kinds of arguments that may be wrong, in the order of the errors, and a call that returns all its results but the error.
type call struct {
	name  string
	kinds string
	do    func(x arguments) ([]any, api.Errno)
}

// calls are all functions with a lawn. The kinds are l for the lawn, h for the hoop, a and b for points, r for the radius, o for the others.
func calls() []call {
	return []call{
		{"Text", "l", func(x arguments) ([]any, api.Errno) { s, e := lawn.Text(x.l); return []any{s}, e }},
		{"Posts", "l", func(x arguments) ([]any, api.Errno) { p, e := lawn.Posts(x.l); return []any{len(p)}, e }},
		{"On", "la", func(x arguments) ([]any, api.Errno) { ok, e := lawn.On(x.l, x.a); return []any{ok}, e }},
		{"CellAt", "la", func(x arguments) ([]any, api.Errno) { c, e := lawn.CellAt(x.l, x.a); return []any{c}, e }},
		{"Touched", "laro", func(x arguments) ([]any, api.Errno) {
			n, e := lawn.Touched(x.l, x.a, x.r, x.others)
			return []any{len(n)}, e
		}},
		{"InWay", "labro", func(x arguments) ([]any, api.Errno) {
			n, e := lawn.InWay(x.l, x.a, x.b, x.r, x.others)
			return []any{len(n)}, e
		}},
		{"May", "laro", func(x arguments) ([]any, api.Errno) {
			ok, e := lawn.May(x.l, x.a, x.r, x.others)
			return []any{ok}, e
		}},
		{"Passes", "lhr", func(x arguments) ([]any, api.Errno) { ok, e := lawn.Passes(x.l, x.hoop, x.r); return []any{ok}, e }},
		{"Stand", "lhar", func(x arguments) ([]any, api.Errno) {
			n, e := lawn.Stand(x.l, x.hoop, true, x.a, x.r)
			return []any{n}, e
		}},
		{"Spot", "la", func(x arguments) ([]any, api.Errno) { p, ok, e := lawn.Spot(x.l, x.a); return []any{p, ok}, e }},
		{"Place", "l", func(x arguments) ([]any, api.Errno) { p, e := lawn.Place(x.l, int64(x.hoop)); return []any{p}, e }},
		{"Number", "la", func(x arguments) ([]any, api.Errno) { n, e := lawn.Number(x.l, x.a); return []any{n}, e }},
		{"Put", "laro", func(x arguments) ([]any, api.Errno) {
			p, e := lawn.Put(x.l, x.a, x.r, x.others)
			return []any{p}, e
		}},
		{"Baulk", "la", func(x arguments) ([]any, api.Errno) { n, e := lawn.Baulk(x.l, x.a); return []any{n}, e }},
	}
}

// faults are the ways in which a kind of argument may be wrong.
func faults(kind rune) []fault {
	var l []fault
	add := func(name string, e api.Errno, spoil func(*arguments)) { l = append(l, fault{name, spoil, e}) }
	switch kind {
	case 'l':
		add("lawn without hoops", api.ErrMany, func(x *arguments) { x.l.Hoops = nil })
		add("lawn without a name", api.ErrArg, func(x *arguments) { x.l.Name = "" })
		add("lawn of nothing", api.ErrMany, func(x *arguments) { x.l = api.Lawn{} })
	case 'h':
		for _, n := range []int{-1, 2, math.MaxInt64, math.MinInt64} {
			add("hoop", api.ErrRange, func(x *arguments) { x.hoop = n })
		}
	case 'a':
		for _, p := range badPoints() {
			add("first point", api.ErrArg, func(x *arguments) { x.a = p })
		}
	case 'b':
		for _, p := range badPoints() {
			add("second point", api.ErrArg, func(x *arguments) { x.b = p })
		}
	case 'r':
		for _, r := range badRadii() {
			add("radius", api.ErrRange, func(x *arguments) { x.r = r })
		}
	case 'o':
		add("13 others", api.ErrMany, func(x *arguments) { x.others = make([]api.Disc, api.MaxOthers+1) })
		for _, p := range badPoints() {
			add("point of an other", api.ErrArg, func(x *arguments) { x.others = []api.Disc{disc(1, 1, 1), {At: p, R: 1}} })
		}
		for _, r := range badRadii() {
			add("radius of an other", api.ErrArg, func(x *arguments) { x.others = []api.Disc{disc(1, 1, r), disc(1, 1, 1)} })
		}
	}
	return l
}

// allZero reports whether all results are zero.
func allZero(results []any) bool {
	return !slices.ContainsFunc(results, func(x any) bool { return !reflect.ValueOf(x).IsZero() })
}

// All functions: the first argument that is wrong decides, whatever the later ones are, and the other results are zero.
func TestOrderOfErrors(t *testing.T) {
	for _, c := range calls() {
		for k, kind := range c.kinds {
			for _, f := range faults(kind) {
				// The points are of all sorts: on the yard line, off the lawn, within the rectangle.
				for _, p := range []api.Point{at(5000, 5000), at(-9, -9), at(50000, 40000)} {
					x := arguments{l: green(), a: p, b: p, r: ball, others: []api.Disc{disc(9, 9, 9)}}
					f.spoil(&x)
					for _, later := range c.kinds[k+1:] + "." {
						if results, e := c.do(x); !allZero(results) || e != f.error {
							t.Errorf("%s with a wrong %s: %v, error %d, not %d", c.name, f.name, results, e, f.error)
						}
						for _, g := range faults(later)[:min(1, len(faults(later)))] {
							g.spoil(&x)
						}
					}
				}
			}
		}
	}
	if e := lawn.Check(api.Lawn{}); e != api.ErrMany {
		t.Errorf("Check of a lawn of nothing: error %d", e)
	}
}

// All functions: what is at a limit is possible.
func TestLimitsOfArguments(t *testing.T) {
	for _, c := range calls() {
		for _, r := range []int64{1, api.MaxBall} {
			for _, p := range []api.Point{at(far, far), at(-far, far), at(far, -far), at(-far, -far)} {
				others := slices.Repeat([]api.Disc{{At: p, R: r}}, api.MaxOthers)
				for _, l := range []api.Lawn{green(), small(), largest()} {
					x := arguments{l: l, hoop: len(l.Hoops) - 1, a: p, b: at(-p.X, -p.Y), r: r, others: others}
					if _, e := c.do(x); e != api.OK && e != api.ErrNone {
						t.Errorf("%s of %v by %d on %s: error %d", c.name, p, r, l.Name, e)
					}
				}
			}
		}
	}
}

// R5, R10: no argument is changed, not even behind the end of a list, and equal calls return equal results.
func TestArgumentsStay(t *testing.T) {
	for _, c := range calls() {
		room := append(make([]api.Disc, 0, 40), disc(5000, 5000, ball), disc(5100, 5000, ball))
		x := arguments{l: green(), a: at(5000, 5000), b: at(5000, 9000), r: ball, others: room}
		x.l.Hoops = append(make([]api.Hoop, 0, 40), x.l.Hoops...)
		first, e := c.do(x)
		again, f := c.do(x)
		if !reflect.DeepEqual(first, again) || e != f {
			t.Errorf("%s again: %v, error %d, not %v, error %d", c.name, again, f, first, e)
		}
		if !same(x.l, green()) || !slices.Equal(room, []api.Disc{disc(5000, 5000, ball), disc(5100, 5000, ball)}) {
			t.Errorf("%s changed an argument: %v, %v", c.name, x.l, room)
		}
		if slices.ContainsFunc(room[2:40], func(d api.Disc) bool { return d != api.Disc{} }) {
			t.Errorf("%s wrote behind the others", c.name)
		}
		if slices.ContainsFunc(x.l.Hoops[2:40], func(h api.Hoop) bool { return h != api.Hoop{} }) {
			t.Errorf("%s wrote behind the hoops", c.name)
		}
	}
}

// R5: results share no memory.
func TestResultsApart(t *testing.T) {
	one, other := postsOf(t, green()), postsOf(t, green())
	one[0].R = 7
	if other[0].R != 500 {
		t.Error("the posts of two calls share memory")
	}
	l, _ := lawn.Parse(greenText)
	m, _ := lawn.Parse(greenText)
	l.Hoops[0].X, l.Cells[0].Drag = 7, 7
	if !same(m, green()) {
		t.Error("the lawns of two calls share memory")
	}
}
