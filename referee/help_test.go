package referee_test

import (
	"math"
	"math/rand"
	"slices"
	"strings"
	"testing"

	"roquet/api"
	"roquet/lawn"
	"roquet/referee"
)

const (
	far  = api.MaxPlace // the greatest coordinate of a point
	ball = 2946         // the radius of the ball of the examples
)

// at returns a point.
func at(x, y int64) api.Point { return api.Point{X: x, Y: y} }

// disc returns a disc.
func disc(x, y, r int64) api.Disc { return api.Disc{At: at(x, y), R: r} }

// green returns the lawn of the examples.
func green() api.Lawn {
	return api.Lawn{
		Name: "green", Wide: 100000, Long: 200000, Yard: 5000,
		Hoops: []api.Hoop{{X: 50000, Y: 40000, Gap: 6000, Wire: 500}, {X: 30000, Y: 100000, Gap: 6000, Wire: 500, Along: true}},
		Peg:   disc(50000, 100000, 1200),
		NX:    2, NY: 1,
		Cells: []api.Cell{{Drag: 100}, {Drag: 200, DX: 5, DY: -5}},
	}
}

// wide returns a lawn that reaches as far as possible, with nothing near its sides.
func wide() api.Lawn {
	return api.Lawn{
		Name: "wide", Wide: far, Long: far,
		Hoops: []api.Hoop{{X: far / 2, Y: far / 2, Gap: 6000, Wire: 500}},
		Peg:   disc(far/4, far/4, 1200),
		NX:    1, NY: 1,
		Cells: make([]api.Cell, 1),
	}
}

// badDiscs are discs that no ball of a pair can be.
func badDiscs() []api.Disc {
	l := []api.Disc{
		disc(0, 0, 0), disc(0, 0, -1), disc(0, 0, api.MaxBall+1), disc(0, 0, api.MaxRadius), disc(0, 0, math.MaxInt64), disc(0, 0, math.MinInt64),
		disc(far-4, 0, 5), disc(0, far-4, 5), disc(4-far, 0, 5), disc(0, 4-far, 5), // rings that reach too far
	}
	for _, p := range badPoints() {
		l = append(l, api.Disc{At: p, R: 5})
	}
	return l
}

// badPoints are points that are not valid in one coordinate.
func badPoints() []api.Point {
	return []api.Point{
		at(far+1, 0), at(0, far+1), at(-far-1, 0), at(0, -far-1),
		at(math.MaxInt64, 0), at(0, math.MinInt64), at(math.MinInt64, math.MaxInt64),
	}
}

// badNames are texts that are no names.
func badNames() []string {
	return []string{"", strings.Repeat("a", api.MaxName+1), "Fault", "fa ult", "fa-ult", "f\u00e4ult", "a\n", " a", "a`", "a{", "a/", "a:", "a\x00", "\xff"}
}

// article returns an article from its words: the facts of If, then unless and those of Unless if there are some, then and Then.
func article(number int, words string) api.Article {
	asked, then, _ := strings.Cut(words, " then ")
	asked, unless, _ := strings.Cut(asked, " unless ")
	a := api.Article{Number: number, If: strings.Fields(asked), Then: then}
	if unless != "" {
		a.Unless = strings.Fields(unless)
	}
	return a
}

// laws returns the book of the examples.
func laws() api.Book {
	return api.Book{Name: "laws", Year: 2021, Articles: []api.Article{
		article(10, "double unless shook then fault"),
		article(20, "fault then ended"),
		article(30, "ended wire then warned"),
	}}
}

// book returns a book with these articles.
func book(l ...api.Article) api.Book { return api.Book{Name: "b", Year: 2000, Articles: l} }

// chain returns a book with so many articles, each of which brings what the next one asks for.
func chain(n int) api.Book {
	b := book()
	for k := range n {
		b.Articles = append(b.Articles, api.Article{Number: k + 1, If: []string{link(k)}, Then: link(k + 1)})
	}
	return b
}

// link returns the fact k of a chain.
func link(k int) string { return "f" + string(rune('0'+k/10)) + string(rune('0'+k%10)) }

// list returns the words of s.
func list(s string) []string { return strings.Fields(s) }

// dice returns numbers that are the same in each run.
func dice(seed int64) *rand.Rand { return rand.New(rand.NewSource(seed)) }

// roll returns a number from a to b.
func roll(r *rand.Rand, a, b int64) int64 { return a + r.Int63n(b-a+1) }

// near returns a point at most n away from p in each coordinate.
func near(r *rand.Rand, p api.Point, n int64) api.Point {
	return at(p.X+roll(r, -n, n), p.Y+roll(r, -n, n))
}

// anyLawn returns a valid lawn on which posts are thick and near each other.
func anyLawn(r *rand.Rand) api.Lawn {
	for {
		l := wide()
		l.Wide, l.Long = api.MinSide, api.MinSide
		l.Hoops = nil
		for range roll(r, 1, 5) {
			l.Hoops = append(l.Hoops, api.Hoop{X: roll(r, 0, l.Wide), Y: roll(r, 0, l.Long), Gap: 2 * roll(r, 1, 1500), Wire: roll(r, 200, 3000), Along: r.Intn(2) == 0})
		}
		l.Peg = disc(roll(r, 0, l.Wide), roll(r, 0, l.Long), roll(r, 500, api.MaxWire))
		if lawn.Check(l) == api.OK {
			return l
		}
	}
}

// aFact returns one of a few facts, which often meet.
func aFact(r *rand.Rand) string { return string(rune('a' + r.Intn(12))) }

// someFacts returns some of a few facts.
func someFacts(r *rand.Rand, most int) []string {
	l := make([]string, 0, most)
	for range r.Intn(most + 1) {
		l = append(l, aFact(r))
	}
	return l
}

// anyBook returns a valid book whose articles hang together.
func anyBook(r *rand.Rand, withUnless bool) api.Book {
	b, number := book(), 0
	for len(b.Articles) < 2 || r.Intn(10) > 0 && number < 60 {
		number += 1 + r.Intn(5)
		a := api.Article{Number: number, If: append(someFacts(r, 2), aFact(r)), Then: aFact(r)}
		if n := len(b.Articles); n > 0 && r.Intn(3) > 0 {
			a.If = []string{b.Articles[r.Intn(n)].Then, b.Articles[n-1].Then}
		}
		if withUnless && r.Intn(3) == 0 {
			a.Unless = someFacts(r, 2)
		}
		// An article that would spoil the book is left out.
		if more := book(append(slices.Clone(b.Articles), a)...); referee.CheckBook(more) == api.OK {
			b = more
		}
	}
	return b
}

// sameBook reports whether two books are the same, where nil lists and empty ones are.
func sameBook(a, b api.Book) bool {
	return a.Name == b.Name && a.Year == b.Year && slices.EqualFunc(a.Articles, b.Articles, func(x, y api.Article) bool {
		return x.Number == y.Number && slices.Equal(x.If, y.If) && slices.Equal(x.Unless, y.Unless) && x.Then == y.Then
	})
}

// mustDirect returns the direct lines between two balls.
func mustDirect(t *testing.T, a, b api.Disc) [][2]int {
	t.Helper()
	l, e := referee.Direct(a, b)
	if e != api.OK {
		t.Fatalf("Direct(%v, %v): error %d", a, b, e)
	}
	return l
}

// mustText returns the text of a book.
func mustText(t *testing.T, b api.Book) string {
	t.Helper()
	s, e := referee.Text(b)
	if e != api.OK {
		t.Fatalf("Text of %v: error %d", b, e)
	}
	return s
}

// mustFollow returns what follows from facts.
func mustFollow(t *testing.T, b api.Book, given []string) ([]string, []int) {
	t.Helper()
	facts, numbers, e := referee.Follows(b, given)
	if e != api.OK {
		t.Fatalf("Follows(%v, %v): error %d", b, given, e)
	}
	return facts, numbers
}

// mustFacts returns the facts of marks.
func mustFacts(t *testing.T, l []api.Mark, ball int, limit int64) []string {
	t.Helper()
	facts, e := referee.Facts(l, ball, limit)
	if e != api.OK {
		t.Fatalf("Facts(%v, %d, %d): error %d", l, ball, limit, e)
	}
	return facts
}
