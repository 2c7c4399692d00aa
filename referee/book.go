package referee

import (
	"slices"

	"roquet/api"
)

const (
	firstYear  = 1850
	lastYear   = 2100
	mostNumber = 9999 // of an article
)

// The words between the facts of an article, which are no names in a book.
const (
	wordIf     = "if"
	wordUnless = "unless"
	wordThen   = "then"
)

// CheckBook reports whether a book is valid.
func CheckBook(b api.Book) api.Errno {
	if len(b.Articles) > api.MaxArticles {
		return api.ErrMany
	}
	if !isBookName(b.Name) || !between(b.Year, firstYear, lastYear) || !areArticles(b.Articles) || !areReadOnce(b.Articles) {
		return api.ErrArg
	}
	return api.OK
}

// areArticles reports whether all articles are valid, and their numbers increase.
func areArticles(l []api.Article) bool {
	last := 0
	for _, a := range l {
		if !between(a.Number, last+1, mostNumber) || !isArticle(a) {
			return false
		}
		last = a.Number
	}
	return true
}

// isArticle reports whether an article is valid, but for its number.
func isArticle(a api.Article) bool {
	return len(a.If) >= 1 && areFacts(a.If) && areFacts(a.Unless) && isBookName(a.Then)
}

// areFacts reports whether these can be the facts for which an article asks, or which it excepts.
func areFacts(l []string) bool {
	return len(l) <= api.MaxIfs && !slices.ContainsFunc(l, func(s string) bool { return !isBookName(s) })
}

// isBookName reports whether s is a name that is valid in a book: as its own, or as that of a fact.
func isBookName(s string) bool {
	return isName(s) && s != wordIf && s != wordUnless && s != wordThen
}

// areReadOnce reports whether no article depends on itself or on a later one, so that once through is enough.
func areReadOnce(l []api.Article) bool {
	comes := map[string]bool{}
	isToCome := func(fact string) bool { return comes[fact] }
	for _, a := range slices.Backward(l) {
		comes[a.Then] = true
		if slices.ContainsFunc(a.If, isToCome) || slices.ContainsFunc(a.Unless, isToCome) {
			return false
		}
	}
	return true
}
