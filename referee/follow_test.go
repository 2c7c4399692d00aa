package referee_test

import (
	"fmt"
	"math"
	"math/rand"
	"slices"
	"testing"

	"roquet/api"
	"roquet/referee"
)

// P6.4: what follows: articles that ask for several facts, except some, or bring what holds already.
func TestFollows(t *testing.T) {
	for _, x := range []struct {
		name    string
		b       api.Book
		given   string
		facts   string
		numbers []int
	}{
		{"no articles", book(), "a", "", nil},
		{"nothing given", laws(), "", "", nil},
		{"a fact that no article knows", laws(), "wire wire", "", nil},
		{"one of two", book(article(1, "a b then c")), "a", "", nil},
		{"both of two", book(article(1, "a b then c")), "b x a", "c", []int{1}},
		{"an exception that holds", book(article(1, "a unless b then c")), "a b", "", nil},
		{"one of two exceptions", book(article(1, "a unless x b then c")), "a b", "", nil},
		{"an exception alone", book(article(1, "a unless b then c")), "b", "", nil},
		{"an exception that came", book(article(1, "a then b"), article(2, "a unless b then c")), "a", "b", []int{1}},
		{"an exception that was given, and came", book(article(1, "a then b"), article(2, "a unless b then c")), "a b", "b"[1:], []int{1}},
		{"what was given", book(article(1, "a then b")), "a b", "", []int{1}},
		{"what came already", book(article(1, "a then c"), article(2, "b then c"), article(3, "c then d")), "a b", "c d", []int{1, 2, 3}},
		{"a fact that is asked for and excepted", book(article(1, "a unless a then b")), "a", "", nil},
		{"a fact given twice", book(article(1, "a then b")), "a a", "b", []int{1}},
		{"words that are no facts", laws(), "if unless then double", "fault ended", []int{10, 20}},
		{"the order of the articles", book(article(1, "z then y"), article(2, "z then b"), article(3, "y then a")), "z", "y b a", []int{1, 2, 3}},
	} {
		facts, numbers := mustFollow(t, x.b, list(x.given))
		if !slices.Equal(facts, list(x.facts)) || !slices.Equal(numbers, x.numbers) {
			t.Errorf("Follows with %s: %v, %v", x.name, facts, numbers)
		}
	}
	facts, numbers := mustFollow(t, chain(api.MaxArticles), []string{link(0)})
	if len(facts) != api.MaxArticles || len(numbers) != api.MaxArticles || facts[63] != link(64) {
		t.Errorf("Follows of a chain: %v, %v", facts, numbers)
	}
}

// P6.4, P6.10: what follows is that of the second version; and each article that applies has a fact that holds as its Then.
func TestFollowsOfAll(t *testing.T) {
	r := dice(66)
	for range 3000 {
		b, given := anyBook(r, true), someFacts(r, 4)
		facts, numbers := mustFollow(t, b, given)
		wantFacts, wantNumbers := modelFollows(b, given)
		if !slices.Equal(facts, wantFacts) || !slices.Equal(numbers, wantNumbers) {
			t.Errorf("Follows(%v, %v): %v, %v, want %v, %v", b, given, facts, numbers, wantFacts, wantNumbers)
		}
		for _, a := range b.Articles {
			if slices.Contains(numbers, a.Number) && !slices.Contains(given, a.Then) && !slices.Contains(facts, a.Then) {
				t.Errorf("Follows(%v, %v): the article %d applies, but its Then does not hold", b, given, a.Number)
			}
		}
	}
}

// P6.10: by a book without any Unless no fewer facts hold if more are given.
func TestMoreFacts(t *testing.T) {
	r := dice(67)
	for range 1500 {
		b, given := anyBook(r, false), someFacts(r, 3)
		more := append(slices.Clone(given), someFacts(r, 3)...)
		facts, _ := mustFollow(t, b, given)
		greater, _ := mustFollow(t, b, more)
		for _, f := range facts {
			if !slices.Contains(greater, f) && !slices.Contains(more, f) {
				t.Errorf("by %v %s holds with %v, but not with %v", b, f, given, more)
			}
		}
	}
}

// P6.5: shortest ways back: of facts that are given, that come by several articles, and that need others.
func TestWhy(t *testing.T) {
	way := func(l ...int) []int { return l }
	several := book(article(1, "x then c"), article(2, "a then c"), article(3, "b then c"), article(4, "c b then d"), article(5, "a then e"), article(6, "d then f"))
	for _, x := range []struct {
		name  string
		b     api.Book
		given string
		fact  string
		way   []int
		e     api.Errno
	}{
		{"one article", laws(), "double", "fault", way(10), api.OK},
		{"two articles", laws(), "double", "ended", way(10, 20), api.OK},
		{"a fact that is given", laws(), "double wire", "wire", nil, api.OK},
		{"a fact that is given, and follows", laws(), "double fault", "fault", nil, api.OK},
		{"a fact that is given on the way", laws(), "double wire fault", "warned", way(20, 30), api.OK},
		{"a fact that is given at the end of the way", laws(), "double wire ended", "warned", way(30), api.OK},
		{"a word that is no fact, but given", laws(), "then", "then", nil, api.OK},
		{"a word that is no fact", laws(), "double", "then", nil, api.ErrNone},
		{"a fact that does not hold", laws(), "wire shook", "fault", nil, api.ErrNone},
		{"a fact that no article has", laws(), "double", "x", nil, api.ErrNone},
		{"a fact of an article", laws(), "double", "shook", nil, api.ErrNone},
		{"the first article that applies", several, "a b", "c", way(2), api.OK},
		{"the first article that applies on the way", several, "a b", "f", way(2, 4, 6), api.OK},
		{"the very first article", several, "a b x", "d", way(1, 4), api.OK},
		{"what is needed twice", book(article(1, "a then b"), article(2, "b then c"), article(3, "b c b then d")), "a", "d", way(1, 2, 3), api.OK},
		{"the whole chain", chain(3), link(0), link(3), way(1, 2, 3), api.OK},
		{"nothing given", laws(), "", "fault", nil, api.ErrNone},
	} {
		l, e := referee.Why(x.b, list(x.given), x.fact)
		if !slices.Equal(l, x.way) || e != x.e {
			t.Errorf("Why with %s: %v, error %d", x.name, l, e)
		}
	}
	l, e := referee.Why(chain(api.MaxArticles), []string{link(0)}, link(64))
	if len(l) != api.MaxArticles || l[63] != 64 || e != api.OK {
		t.Errorf("Why of a chain: %v, error %d", l, e)
	}
	if e := referee.CheckWhy(chain(api.MaxArticles), []string{link(0)}, link(64), l); e != api.OK {
		t.Errorf("CheckWhy of a chain: error %d", e)
	}
}

// askedFact returns any fact, or often one of those that hold at the end.
func askedFact(r *rand.Rand, b api.Book, given []string) string {
	facts, _ := modelFollows(b, given)
	if len(facts) == 0 || r.Intn(4) == 0 {
		return aFact(r)
	}
	return facts[len(facts)-1]
}

// P6.5, P6.9: ways back are those of the second version and right derivations, but no longer without one of their articles.
func TestWhyOfAll(t *testing.T) {
	r := dice(68)
	long := 0
	for range 3000 {
		b, given := anyBook(r, true), someFacts(r, 6)
		fact := askedFact(r, b, given)
		way, e := referee.Why(b, given, fact)
		if !modelHolds(b, given, fact) {
			if way != nil || e != api.ErrNone {
				t.Errorf("Why(%v, %v, %s): %v, error %d", b, given, fact, way, e)
			}
			continue
		}
		if want := modelWay(b, given, fact); !slices.Equal(way, want) || e != api.OK {
			t.Errorf("Why(%v, %v, %s): %v, error %d, want %v", b, given, fact, way, e, want)
		}
		if e := referee.CheckWhy(b, given, fact, way); e != api.OK {
			t.Errorf("CheckWhy(%v, %v, %s, %v): error %d", b, given, fact, way, e)
		}
		for k := range way {
			if e := referee.CheckWhy(b, given, fact, slices.Delete(slices.Clone(way), k, k+1)); e != api.ErrSum {
				t.Errorf("CheckWhy(%v, %v, %s, %v) without the article %d: error %d", b, given, fact, way, way[k], e)
			}
		}
		if len(way) > 2 {
			long++
		}
	}
	if long < 50 {
		t.Errorf("only %d ways have more than two articles", long)
	}
}

// P6.5: derivations that are right though not the shortest, and some that are not.
func TestCheckWhy(t *testing.T) {
	several := book(article(1, "x then c"), article(2, "a then c"), article(3, "b then c"), article(4, "c b then d"), article(5, "a then e"), article(6, "a unless c then d"))
	for _, x := range []struct {
		given, fact string
		l           []int
		want        api.Errno
	}{
		{"a b", "c", []int{2}, api.OK},
		{"a b", "c", []int{3}, api.OK},
		{"a b", "c", []int{2, 3}, api.OK},
		{"a b", "c", []int{2, 5}, api.OK}, // an article that is not needed
		{"a b", "c", []int{5, 2}, api.ErrSum},
		{"a b", "c", []int{3, 2}, api.ErrSum},
		{"a b", "c", []int{2, 2}, api.ErrSum},
		{"a b", "c", []int{5}, api.ErrSum},
		{"a b", "c", nil, api.ErrSum},
		{"a b", "c", []int{1}, api.ErrSum}, // it does not apply
		{"a b", "c", []int{1, 2}, api.ErrSum},
		{"a b", "c", []int{2, 7}, api.ErrSum},
		{"a b", "c", []int{0, 2}, api.ErrSum},
		{"a b", "c", []int{math.MinInt, 2}, api.ErrSum},
		{"a b", "c", []int{2, math.MaxInt}, api.ErrSum},
		{"a b", "d", []int{2, 4}, api.OK},
		{"a b", "d", []int{4}, api.ErrSum}, // c is not derived
		{"a b", "d", []int{4, 2}, api.ErrSum},
		{"a b", "d", []int{3, 4, 5}, api.OK},
		{"a b", "d", []int{6}, api.ErrSum}, // its exception holds, though not by the list
		{"a b c", "d", []int{4}, api.OK},
		{"a b", "a", nil, api.OK},
		{"a b", "a", []int{2}, api.OK},
		{"a b", "a", []int{1}, api.ErrSum},
		{"a b", "x", nil, api.ErrSum},
		{"", "c", []int{2}, api.ErrSum},
		{"if", "if", nil, api.OK},
		{"a", "c", make([]int, api.MaxArticles), api.ErrSum},
		{"a", "c", make([]int, api.MaxArticles+1), api.ErrMany},
		{"a", "a", make([]int, api.MaxArticles+1), api.ErrMany},
	} {
		if e := referee.CheckWhy(several, list(x.given), x.fact, x.l); e != x.want {
			t.Errorf("CheckWhy of %s from %s by %v: error %d", x.fact, x.given, x.l, e)
		}
	}
}

// listOf returns some numbers of articles, nearly always in order.
func listOf(r *rand.Rand, b api.Book) []int {
	var l []int
	for _, a := range b.Articles {
		switch r.Intn(12) {
		case 0:
			l = append(l, a.Number, a.Number)
		case 1:
			l = append(l, a.Number+1)
		case 2, 3, 4:
		default:
			l = append(l, a.Number)
		}
	}
	if len(l) > 1 && r.Intn(10) == 0 {
		l[0], l[1] = l[1], l[0]
	}
	return l
}

// P6.5, P6.9: CheckWhy accepts just the right derivations, and what it accepts proves that the fact holds.
func TestCheckWhyOfAll(t *testing.T) {
	r := dice(69)
	right := 0
	for range 6000 {
		b, given := anyBook(r, true), someFacts(r, 6)
		fact := askedFact(r, b, given)
		l := listOf(r, b)
		if _, numbers := mustFollow(t, b, given); r.Intn(2) == 0 {
			l = slices.DeleteFunc(numbers, func(int) bool { return r.Intn(8) == 0 })
		}
		want := api.ErrSum
		if modelRight(b, given, fact, l) {
			want = api.OK
			right++
		}
		if e := referee.CheckWhy(b, given, fact, l); e != want {
			t.Errorf("CheckWhy(%v, %v, %s, %v): error %d, not %d", b, given, fact, l, e, want)
		}
		if want == api.OK && !modelHolds(b, given, fact) {
			t.Errorf("a right derivation %v of %s from %v by %v, which does not hold", l, fact, given, b)
		}
	}
	if right < 1000 || right > 5000 {
		t.Errorf("of 6000 derivations %d are right", right)
	}
}

// P6.4, P6.5: the limit of given facts, and facts that are no names.
func TestGivenErrors(t *testing.T) {
	many := make([]string, 0, api.MaxFacts)
	for k := range api.MaxFacts {
		many = append(many, fmt.Sprintf("g%d", k))
	}
	for name, x := range map[string]struct {
		given []string
		want  api.Errno
	}{
		"most":                 {many, api.OK},
		"most, all the same":   {slices.Repeat(list("double"), api.MaxFacts), api.OK},
		"too many":             {append(slices.Clone(many), "a"), api.ErrMany},
		"too many of the same": {slices.Repeat(list("double"), api.MaxFacts+1), api.ErrMany},
		"too many no names":    {make([]string, api.MaxFacts+1), api.ErrMany},
	} {
		if _, _, e := referee.Follows(laws(), x.given); e != x.want {
			t.Errorf("Follows with %s: error %d", name, e)
		}
	}
	for _, s := range badNames() {
		if facts, numbers, e := referee.Follows(laws(), []string{"double", s}); facts != nil || numbers != nil || e != api.ErrArg {
			t.Errorf("Follows with %q: %v, %v, error %d", s, facts, numbers, e)
		}
		if l, e := referee.Why(laws(), list("double"), s); l != nil || e != api.ErrArg {
			t.Errorf("Why of %q: %v, error %d", s, l, e)
		}
		if e := referee.CheckWhy(laws(), list("double"), s, nil); e != api.ErrArg {
			t.Errorf("CheckWhy of %q: error %d", s, e)
		}
	}
}
