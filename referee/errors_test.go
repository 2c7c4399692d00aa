package referee_test

import (
	"math"
	"reflect"
	"slices"
	"testing"

	"roquet/api"
	"roquet/referee"
)

// arguments are all arguments that a function of the package may have; each function takes what it needs.
type arguments struct {
	l      api.Lawn
	a, b   api.Disc
	posts  []int
	book   api.Book
	given  []string
	fact   string
	marks  []api.Mark
	ball   int
	limit  int64
	p      api.Point
	r      int64
	others []api.Disc
}

// good returns arguments with which no function returns an error, but Open.
func good() arguments {
	return arguments{
		l: green(), a: disc(46500, 35000, 300), b: disc(46500, 45000, 300), book: laws(), given: list("double wire"), fact: "ended",
		posts: []int{10, 20}, marks: marks(mallet(1, 2), mallet(3, 4)), p: at(50000, 70000), r: ball, others: []api.Disc{disc(50000, 71000, ball)},
	}
}

// call is a function of the package: its kinds of arguments that may be wrong, in the order of the errors, and a call that returns all its results but the error.
type call struct {
	name  string
	kinds string
	do    func(x arguments) ([]any, api.Errno)
}

// calls are all functions of the package. The kinds are l for the lawn, d for both balls, c for a proof that is too short, B for the book, g for given facts, f for the fact, n for the numbers of a derivation, m for the marks, k for the ball and the limit, p for the point, r for the radius, o for the others.
func calls() []call {
	return []call{
		{"Direct", "d", func(x arguments) ([]any, api.Errno) { l, e := referee.Direct(x.a, x.b); return []any{l}, e }},
		{"Open", "ld", func(x arguments) ([]any, api.Errno) {
			i, k, e := referee.Open(x.l, x.a, x.b)
			return []any{i, k}, e
		}},
		{"Cut", "ld", func(x arguments) ([]any, api.Errno) { l, e := referee.Cut(x.l, x.a, x.b); return []any{l}, e }},
		{"CheckCut", "ldc", func(x arguments) ([]any, api.Errno) { return nil, referee.CheckCut(x.l, x.a, x.b, x.posts) }},
		{"CheckBook", "B", func(x arguments) ([]any, api.Errno) { return nil, referee.CheckBook(x.book) }},
		{"Text", "B", func(x arguments) ([]any, api.Errno) { s, e := referee.Text(x.book); return []any{s}, e }},
		{"Follows", "Bg", func(x arguments) ([]any, api.Errno) {
			facts, numbers, e := referee.Follows(x.book, x.given)
			return []any{facts, numbers}, e
		}},
		{"Why", "Bgf", func(x arguments) ([]any, api.Errno) {
			l, e := referee.Why(x.book, x.given, x.fact)
			return []any{l}, e
		}},
		{"CheckWhy", "Bgfn", func(x arguments) ([]any, api.Errno) {
			return nil, referee.CheckWhy(x.book, x.given, x.fact, x.posts)
		}},
		{"Facts", "mk", func(x arguments) ([]any, api.Errno) {
			l, e := referee.Facts(x.marks, x.ball, x.limit)
			return []any{l}, e
		}},
		{"Judge", "Bmkf", func(x arguments) ([]any, api.Errno) {
			follows, way, e := referee.Judge(x.book, x.marks, x.ball, x.limit, x.fact)
			return []any{follows, way}, e
		}},
		{"Replace", "lpro", func(x arguments) ([]any, api.Errno) {
			p, e := referee.Replace(x.l, x.p, x.r, x.others)
			return []any{p}, e
		}},
	}
}

// fault is a way in which an argument may be wrong, and the error for it.
type fault struct {
	error api.Errno
	spoil func(*arguments)
}

// faults are the ways in which a kind of argument may be wrong.
func faults(kind rune) []fault {
	switch kind {
	case 'l':
		return []fault{{api.ErrMany, func(x *arguments) { x.l.Hoops = nil }}, {api.ErrArg, func(x *arguments) { x.l.Name = "" }}, {api.ErrMany, func(x *arguments) { x.l = api.Lawn{} }}}
	case 'd':
		return []fault{{api.ErrArg, func(x *arguments) { x.b = x.a }}, {api.ErrArg, func(x *arguments) { x.a.R = 0 }}, {api.ErrArg, func(x *arguments) { x.b.At.Y = math.MaxInt64 }}}
	case 'c':
		return []fault{{api.ErrEqual, func(x *arguments) { x.posts = []int{-1} }}}
	case 'B':
		return []fault{{api.ErrArg, func(x *arguments) { x.book.Year = 0 }}, {api.ErrArg, func(x *arguments) { x.book.Name = "then" }}, {api.ErrMany, func(x *arguments) { x.book.Articles = make([]api.Article, 65) }}}
	case 'g':
		return []fault{{api.ErrMany, func(x *arguments) { x.given = make([]string, 65) }}, {api.ErrArg, func(x *arguments) { x.given = []string{"a", ""} }}}
	case 'f':
		return []fault{{api.ErrArg, func(x *arguments) { x.fact = "" }}, {api.ErrArg, func(x *arguments) { x.fact = "A" }}}
	case 'n':
		return []fault{{api.ErrMany, func(x *arguments) { x.posts = make([]int, 65) }}, {api.ErrSum, func(x *arguments) { x.posts = []int{-1} }}}
	case 'm':
		return []fault{{api.ErrMany, func(x *arguments) { x.marks = make([]api.Mark, 65) }}, {api.ErrArg, func(x *arguments) { x.marks = marks(mallet(1, 0)) }}}
	case 'k':
		return []fault{{api.ErrRange, func(x *arguments) { x.ball = 4 }}, {api.ErrRange, func(x *arguments) { x.limit = -1 }}}
	case 'p':
		return []fault{{api.ErrArg, func(x *arguments) { x.p.X = far + 1 }}, {api.ErrArg, func(x *arguments) { x.p.Y = math.MinInt64 }}}
	case 'r':
		return []fault{{api.ErrRange, func(x *arguments) { x.r = 0 }}, {api.ErrRange, func(x *arguments) { x.r = api.MaxBall + 1 }}}
	case 'o':
		return []fault{{api.ErrMany, func(x *arguments) { x.others = make([]api.Disc, 13) }}, {api.ErrArg, func(x *arguments) { x.others = make([]api.Disc, 1) }}}
	}
	return nil
}

// allZero reports whether all results are zero.
func allZero(results []any) bool {
	return !slices.ContainsFunc(results, func(x any) bool { return !reflect.ValueOf(x).IsZero() })
}

// All functions: the first argument that is wrong decides, whatever the later ones are, and the other results are zero.
func TestOrderOfErrors(t *testing.T) {
	for _, c := range calls() {
		for k, kind := range c.kinds {
			for _, f := range faults(kind) {
				x := good()
				f.spoil(&x)
				for _, later := range c.kinds[k+1:] + "." {
					if results, e := c.do(x); !allZero(results) || e != f.error {
						t.Errorf("%s with a wrong %c, before %c: %v, error %d, not %d", c.name, kind, later, results, e, f.error)
					}
					for _, g := range faults(later) {
						g.spoil(&x)
					}
				}
			}
		}
	}
	for _, c := range calls() {
		if results, e := c.do(good()); (e == api.OK) != (c.name != "Open" && c.name != "CheckCut") {
			t.Errorf("%s with good arguments: %v, error %d", c.name, results, e)
		}
	}
}

// roomy returns good arguments, all lists of which have room behind their ends.
func roomy() arguments {
	x := good()
	x.l.Hoops = append(make([]api.Hoop, 0, 20), x.l.Hoops...)
	x.book.Articles = append(make([]api.Article, 0, 20), x.book.Articles...)
	for k := range x.book.Articles {
		a := &x.book.Articles[k]
		a.If = append(make([]string, 0, 20), a.If...)
		a.Unless = append(make([]string, 0, 20), a.Unless...)
	}
	x.given = append(make([]string, 0, 20), x.given...)
	x.posts = append(make([]int, 0, 20), x.posts...)
	x.marks = append(make([]api.Mark, 0, 20), x.marks...)
	x.others = append(make([]api.Disc, 0, 20), x.others...)
	return x
}

// whole returns all lists of arguments with what is behind their ends.
func whole(x arguments) []any {
	l := []any{x.l.Hoops[:20], x.book.Articles[:20], x.given[:20], x.posts[:20], x.marks[:20], x.others[:20]}
	for _, a := range x.book.Articles {
		l = append(l, a.If[:20], a.Unless[:20])
	}
	return l
}

// R5, R10: no argument is changed, not even behind the end of a list, and equal calls return equal results, which share no memory.
func TestArgumentsStay(t *testing.T) {
	for _, c := range calls() {
		x := roomy()
		first, e := c.do(x)
		again, f := c.do(x)
		if !reflect.DeepEqual(first, again) || e != f {
			t.Errorf("%s again: %v, error %d, not %v, error %d", c.name, again, f, first, e)
		}
		if !reflect.DeepEqual(x, roomy()) || !reflect.DeepEqual(whole(x), whole(roomy())) {
			t.Errorf("%s changed an argument: %v", c.name, x)
		}
		for _, v := range first {
			if l := reflect.ValueOf(v); l.Kind() == reflect.Slice {
				for k := range l.Len() {
					l.Index(k).SetZero()
				}
			}
		}
		if third, _ := c.do(x); !reflect.DeepEqual(third, again) || !reflect.DeepEqual(x, roomy()) {
			t.Errorf("%s shares memory with a result: %v", c.name, third)
		}
	}
	one, _ := referee.Parse(lawsText)
	other, _ := referee.Parse(lawsText)
	one.Articles[0].If[0], one.Articles[1].Then = "x", "x"
	if !sameBook(other, laws()) {
		t.Error("the books of two calls share memory")
	}
}
