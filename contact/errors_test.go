package contact_test

import (
	"math"
	"testing"

	"roquet/api"
	"roquet/contact"
)

// arguments are all arguments that a function with balls may have; each function takes what it needs.
type arguments struct {
	pair
	d     api.Disc
	ticks int
}

// call is a function of the package: the kinds of its arguments, and a call that reports whether all results but the error are zero.
type call struct {
	name  string
	kinds string
	do    func(x arguments) (bool, api.Errno)
}

// calls are all functions with a ball, but for the checks. The kinds are a and b for the balls with their motions, x for the bounce, d for the disc.
func calls() []call {
	none := api.Motion{}
	return []call{
		{"Step", "a", func(x arguments) (bool, api.Errno) { s, e := contact.Step(x.a, x.s); return s == none, e }},
		{"Tick", "a", func(x arguments) (bool, api.Errno) {
			s, e := contact.Tick(x.a, x.s, x.ticks)
			return s == none, e
		}},
		{"Kick", "abx", func(x arguments) (bool, api.Errno) { k, e := x.kick(); return k == at(0, 0), e }},
		{"Bounce", "abx", func(x arguments) (bool, api.Errno) {
			s, u, e := x.bounce()
			return s == none && u == none, e
		}},
		{"Bump", "axd", func(x arguments) (bool, api.Errno) {
			s, e := contact.Bump(x.a, x.s, x.d, x.x)
			return s == none, e
		}},
		{"Work", "ab", func(x arguments) (bool, api.Errno) {
			n, e := contact.Work(x.a, x.s, x.b, x.t)
			return n == 0, e
		}},
		{"Total", "ab", func(x arguments) (bool, api.Errno) {
			p, e := contact.Total([]api.Ball{x.a, x.b}, []api.Motion{x.s, x.t})
			return p == at(0, 0), e
		}},
		{"Settle", "abx", func(x arguments) (bool, api.Errno) {
			s, met, e := contact.Settle([]api.Ball{x.a, x.b}, []api.Motion{x.s, x.t}, x.x)
			return len(s) == 0 && len(met) == 0, e
		}},
	}
}

// spoiled returns the arguments with one that is not valid, in all ways, for this kind.
func spoiled(x arguments, kind rune) []arguments {
	var l []arguments
	add := func(spoil func(y *arguments)) {
		y := x
		spoil(&y)
		l = append(l, y)
	}
	switch kind {
	case 'a', 'b':
		for _, b := range badBalls() {
			add(func(y *arguments) { *map[rune]*api.Ball{'a': &y.a, 'b': &y.b}[kind] = b })
		}
		for _, s := range badMotions() {
			add(func(y *arguments) { *map[rune]*api.Motion{'a': &y.s, 'b': &y.t}[kind] = s })
		}
	case 'x':
		for _, b := range badBounces() {
			add(func(y *arguments) { y.x = b })
		}
	case 'd':
		for _, d := range badDiscs() {
			add(func(y *arguments) { y.d = d })
		}
	}
	return l
}

// starts are arguments for which, if they were all valid, each function would do well, or have another error.
func starts() []arguments {
	good := arguments{straight(at(5888, 0), at(1000000, 0), at(0, 0)), disc(3000, 0, 56), 3}
	apart := arguments{straight(at(5889, 0), at(1000000, 0), at(0, 0)), disc(3001, 0, 56), -1}
	away := arguments{straight(at(5888, 0), at(-1000000, 0), at(0, 0)), disc(3000, 0, 56), math.MaxInt}
	over := arguments{straight(at(far-5888, 0), at(0, 0), at(fast, 0)), disc(far-1400, -2600, 56), 1000}
	over.s = motion(at(far, 0), at(7007177, -fast))
	over.a.Mass, over.b.Mass = 500, 400
	return []arguments{good, apart, away, over}
}

// P3.2 to P3.7: what is not valid is found before all other errors, in each argument.
func TestErrArgFirst(t *testing.T) {
	for _, c := range calls() {
		for _, start := range starts() {
			for _, kind := range "abxd" {
				for _, x := range spoiled(start, kind) {
					_, want := c.do(start)
					for _, k := range c.kinds {
						if k == kind {
							want = api.ErrArg
						}
					}
					if zero, e := c.do(x); e != want || e != api.OK && !zero {
						t.Errorf("%s of %v: all zero: %v, error %d, and not %d", c.name, x, zero, e, want)
					}
				}
			}
		}
	}
}

// P3.2 to P3.7: the other errors of the same arguments, when all of them are valid.
func TestOtherErrors(t *testing.T) {
	want := map[string][]api.Errno{
		"Step":   {api.OK, api.OK, api.OK, api.ErrOver},
		"Tick":   {api.OK, api.ErrRange, api.ErrRange, api.ErrOver},
		"Kick":   {api.OK, api.ErrNone, api.ErrState, api.OK},
		"Bounce": {api.OK, api.ErrNone, api.ErrState, api.ErrOver},
		"Bump":   {api.OK, api.ErrNone, api.ErrState, api.ErrOver},
		"Work":   {api.OK, api.OK, api.OK, api.OK},
		"Total":  {api.OK, api.OK, api.OK, api.OK},
		"Settle": {api.OK, api.OK, api.OK, api.ErrOver},
	}
	for _, c := range calls() {
		for k, x := range starts() {
			if zero, e := c.do(x); e != want[c.name][k] || e != api.OK && !zero {
				t.Errorf("%s of %v: all zero: %v, error %d, and not %d", c.name, x, zero, e, want[c.name][k])
			}
		}
	}
}

// P3.2: of ticks that are out of range for a motion that would go too far, ErrRange comes first.
func TestTickOrder(t *testing.T) {
	gone := motion(at(far, far), at(fast, fast))
	for ticks, want := range map[int]api.Errno{-1: api.ErrRange, 1001: api.ErrRange, 1000: api.ErrOver, 1: api.ErrOver, 0: api.OK} {
		if s, e := contact.Tick(ball(), gone, ticks); e != want || e != api.OK && s != (api.Motion{}) {
			t.Errorf("%d ticks: %v, error %d", ticks, s, e)
		}
	}
}
