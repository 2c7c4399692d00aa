package referee_test

import (
	"math/big"
	"slices"

	"roquet/api"
	"roquet/lawn"
	"roquet/turf"
)

// The second version of the package, which follows the definitions in other ways: by sides instead of rings that are passed, by fractions instead of squares, and by recursion instead of reading.

// leftOf reports whether p is to the left of the way from a to b.
func leftOf(a, b, p api.Point) bool {
	return (b.X-a.X)*(p.Y-a.Y)-(b.Y-a.Y)*(p.X-a.X) > 0
}

// enters reports whether a segment from the point i of a convex ring to q begins inside of it.
func enters(ring []api.Point, i int, q api.Point) bool {
	n := len(ring)
	return leftOf(ring[(i+n-1)%n], ring[i], q) && leftOf(ring[i], ring[(i+1)%n], q)
}

// modelDirect returns the direct lines between two balls whose rings are convex.
func modelDirect(a, b api.Disc) [][2]int {
	from, _ := turf.Ring(a)
	to, _ := turf.Ring(b)
	var l [][2]int
	for i := range from {
		for k := range to {
			if !enters(from, i, to[k]) && !enters(to, k, from[i]) {
				l = append(l, [2]int{i, k})
			}
		}
	}
	return l
}

// squareFrom returns the square of the distance of p from the segment from a to b.
func squareFrom(a, b, p api.Point) *big.Rat {
	vx, vy, wx, wy := b.X-a.X, b.Y-a.Y, p.X-a.X, p.Y-a.Y
	share := new(big.Rat)
	if a != b {
		share.SetFrac64(vx*wx+vy*wy, vx*vx+vy*vy)
	}
	if share.Sign() < 0 {
		share.SetInt64(0)
	}
	if share.Cmp(big.NewRat(1, 1)) > 0 {
		share.SetInt64(1)
	}
	square := new(big.Rat)
	for _, c := range [][2]int64{{vx, wx}, {vy, wy}} {
		off := new(big.Rat).Mul(share, big.NewRat(c[0], 1))
		off.Sub(off, big.NewRat(c[1], 1))
		square.Add(square, off.Mul(off, off))
	}
	return square
}

// modelCutBy returns the numbers of the posts that cut a line between two balls.
func modelCutBy(l api.Lawn, a, b api.Disc, x [2]int) []int {
	from, _ := turf.Ring(a)
	to, _ := turf.Ring(b)
	posts, _ := lawn.Posts(l)
	var numbers []int
	for n, d := range posts {
		if squareFrom(from[x[0]], to[x[1]], d.At).Cmp(big.NewRat(d.R*d.R, 1)) < 0 {
			numbers = append(numbers, n)
		}
	}
	return numbers
}

// modelHolds reports whether a fact holds at the end: it is given, or an article that applies has it as Then.
func modelHolds(b api.Book, given []string, fact string) bool {
	if slices.Contains(given, fact) {
		return true
	}
	for _, a := range b.Articles {
		if a.Then == fact && modelApplies(b, given, a) {
			return true
		}
	}
	return false
}

// modelApplies reports whether an article applies. What it asks for holds at its place if it holds at the end, as no later article has it as Then.
func modelApplies(b api.Book, given []string, a api.Article) bool {
	for _, fact := range a.If {
		if !modelHolds(b, given, fact) {
			return false
		}
	}
	for _, fact := range a.Unless {
		if modelHolds(b, given, fact) {
			return false
		}
	}
	return true
}

// modelFollows returns what follows from given facts: the facts, and the numbers of the articles that apply.
func modelFollows(b api.Book, given []string) ([]string, []int) {
	var facts []string
	var numbers []int
	for _, a := range b.Articles {
		if !modelApplies(b, given, a) {
			continue
		}
		numbers = append(numbers, a.Number)
		if !slices.Contains(given, a.Then) && !slices.Contains(facts, a.Then) {
			facts = append(facts, a.Then)
		}
	}
	return facts, numbers
}

// modelWay returns the shortest way back of a fact that holds at the end.
func modelWay(b api.Book, given []string, fact string) []int {
	if slices.Contains(given, fact) {
		return nil
	}
	for _, a := range b.Articles {
		if a.Then == fact && modelApplies(b, given, a) {
			way := []int{a.Number}
			for _, f := range a.If {
				way = append(way, modelWay(b, given, f)...)
			}
			slices.Sort(way)
			return slices.Compact(way)
		}
	}
	panic("the fact does not hold")
}

// modelRight reports whether a list of numbers is a right derivation of a fact.
func modelRight(b api.Book, given []string, fact string, l []int) bool {
	known := slices.Clone(given)
	for k, n := range l {
		at := slices.IndexFunc(b.Articles, func(a api.Article) bool { return a.Number == n })
		if at < 0 || k > 0 && l[k-1] >= n || !modelApplies(b, given, b.Articles[at]) {
			return false
		}
		for _, f := range b.Articles[at].If {
			if !slices.Contains(known, f) {
				return false
			}
		}
		known = append(known, b.Articles[at].Then)
	}
	return slices.Contains(known, fact)
}

// modelFacts returns the facts of marks, each by its sentence.
func modelFacts(l []api.Mark, ball int, limit int64) []string {
	has := map[string]bool{}
	first := -1
	for i, m := range l {
		switch m.Kind {
		case api.MarkMallet:
			has["struck"] = true
			if first < 0 {
				first = i
			}
			if m.To-m.From > limit {
				has["push"] = true
			}
		case api.MarkOther:
			has["other"] = true
		case api.MarkPost:
			has["wire"] = true
		case api.MarkBody:
			has["body"] = true
		case api.MarkMoved:
			has[map[bool]string{true: "moved", false: "shook"}[m.Ball == ball]] = true
		}
		for k, o := range l {
			if m.Kind != api.MarkMallet {
				continue
			}
			switch {
			case o.Kind == api.MarkMallet && k != i:
				has["double"] = true
			case o.Kind == api.MarkHeld && commonTick(m, o):
				has["crush"] = true
			case o.Kind == api.MarkMoved && o.Ball != ball && m.From > l[first].From && o.From <= m.From:
				has["late"] = true
			}
		}
	}
	var facts []string
	for _, fact := range list("struck double push crush other wire body moved shook late") {
		if has[fact] {
			facts = append(facts, fact)
		}
	}
	return facts
}

// commonTick reports whether there is a tick in both marks.
func commonTick(a, b api.Mark) bool {
	for tick := a.From; tick <= a.To; tick++ {
		if b.From <= tick && tick <= b.To {
			return true
		}
	}
	return false
}

// modelReplace returns where a ball is replaced, and whether there is a place. (lawn.May returns false with an error, too.)
func modelReplace(l api.Lawn, p api.Point, r int64, others []api.Disc) (api.Point, bool) {
	tried := []api.Point{p}
	for _, d := range others {
		x, y, both := d.At.X-p.X, d.At.Y-p.Y, d.R+r
		if x*x+y*y >= both*both {
			continue
		}
		if x == 0 && y == 0 {
			tried = append(tried, at(p.X+both+2, p.Y))
		} else if q, e := turf.Towards(p, d.At, both+2); e == api.OK {
			tried = append(tried, q)
		}
	}
	for _, q := range tried {
		if may, _ := lawn.May(l, q, r, others); may {
			return q, true
		}
	}
	return api.Point{}, false
}
