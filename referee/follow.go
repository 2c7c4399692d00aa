package referee

import (
	"iter"
	"slices"

	"roquet/api"
)

// desk answers questions by the articles of a valid book, with the facts that hold in the question that is asked.
type desk struct {
	articles []api.Article
	holds    map[string]bool
}

// deskWith returns a desk with a book on it.
func deskWith(b api.Book) *desk {
	return &desk{articles: b.Articles, holds: map[string]bool{}}
}

// ask begins a question, in which nothing but what is given holds.
func (d *desk) ask(given []string) {
	clear(d.holds)
	for _, fact := range given {
		d.holds[fact] = true
	}
}

// has reports whether a fact holds.
func (d *desk) has(fact string) bool { return d.holds[fact] }

// lacks reports whether a fact does not hold.
func (d *desk) lacks(fact string) bool { return !d.holds[fact] }

// follow asks what follows from given facts, and yields the articles that apply, in order, each with whether it is the first one that has its Then.
func (d *desk) follow(given []string) iter.Seq2[api.Article, bool] {
	return func(yield func(api.Article, bool) bool) {
		d.ask(given)
		for _, a := range d.articles {
			if slices.ContainsFunc(a.If, d.lacks) || slices.ContainsFunc(a.Unless, d.has) {
				continue
			}
			first := d.lacks(a.Then)
			d.holds[a.Then] = true
			if !yield(a, first) {
				return
			}
		}
	}
}

// why returns the shortest way back of a fact from given ones, and whether it follows.
func (d *desk) why(given []string, fact string) ([]int, bool) {
	var firsts []api.Article
	for a, first := range d.follow(given) {
		if first {
			firsts = append(firsts, a)
		}
	}
	if d.lacks(fact) {
		return nil, false
	}
	// An article needs only what is given or earlier, so once back is enough.
	needed := map[string]bool{fact: true}
	var way []int
	for _, a := range slices.Backward(firsts) {
		if !needed[a.Then] {
			continue
		}
		way = append(way, a.Number)
		for _, f := range a.If {
			needed[f] = true
		}
	}
	slices.Reverse(way)
	return way, true
}

// isRight reports whether a list of numbers is a right derivation of a fact from given ones.
func (d *desk) isRight(given []string, fact string, l []int) bool {
	var applied []api.Article
	for a := range d.follow(given) {
		applied = append(applied, a)
	}
	// Now nothing holds but by the articles of the list.
	d.ask(given)
	for _, n := range l {
		at := slices.IndexFunc(applied, func(a api.Article) bool { return a.Number == n })
		if at < 0 || slices.ContainsFunc(applied[at].If, d.lacks) {
			return false
		}
		d.holds[applied[at].Then] = true
		applied = applied[at+1:] // the next one has to be a later one
	}
	return d.has(fact)
}

// Follows returns what follows from facts.
func Follows(b api.Book, given []string) ([]string, []int, api.Errno) {
	if e := checkGiven(b, given); e != api.OK {
		return nil, nil, e
	}
	var facts []string
	var numbers []int
	for a, first := range deskWith(b).follow(given) {
		numbers = append(numbers, a.Number)
		if first {
			facts = append(facts, a.Then)
		}
	}
	return facts, numbers, api.OK
}

// Why returns the shortest way back of a fact.
func Why(b api.Book, given []string, fact string) ([]int, api.Errno) {
	if e := checkAsked(b, given, fact); e != api.OK {
		return nil, e
	}
	way, holds := deskWith(b).why(given, fact)
	if !holds {
		return nil, api.ErrNone
	}
	return way, api.OK
}

// CheckWhy checks a derivation.
func CheckWhy(b api.Book, given []string, fact string, l []int) api.Errno {
	if e := checkAsked(b, given, fact); e != api.OK {
		return e
	}
	if len(l) > api.MaxArticles {
		return api.ErrMany
	}
	if !deskWith(b).isRight(given, fact, l) {
		return api.ErrSum
	}
	return api.OK
}

// checkGiven returns the first error of a book and of given facts.
func checkGiven(b api.Book, given []string) api.Errno {
	if e := CheckBook(b); e != api.OK {
		return e
	}
	if len(given) > api.MaxFacts {
		return api.ErrMany
	}
	for _, fact := range given {
		if !isName(fact) {
			return api.ErrArg
		}
	}
	return api.OK
}

// checkAsked returns the first error of a book, of given facts, and of the fact that is asked for.
func checkAsked(b api.Book, given []string, fact string) api.Errno {
	if e := checkGiven(b, given); e != api.OK {
		return e
	}
	if !isName(fact) {
		return api.ErrArg
	}
	return api.OK
}
