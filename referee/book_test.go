package referee_test

import (
	"math"
	"slices"
	"strings"
	"testing"

	"roquet/api"
	"roquet/referee"
)

// longest returns the valid book with the longest text.
func longest() api.Book {
	facts := func(c string) []string { return slices.Repeat([]string{strings.Repeat(c, api.MaxName)}, api.MaxIfs) }
	b := api.Book{Name: strings.Repeat("z", api.MaxName), Year: 2100}
	for k := range api.MaxArticles {
		b.Articles = append(b.Articles, api.Article{Number: 9999 - api.MaxArticles + 1 + k, If: facts("a"), Unless: facts("b"), Then: strings.Repeat("c", api.MaxName)})
	}
	return b
}

// goodBooks are valid books, also at the limits.
func goodBooks() map[string]api.Book {
	named := func(name string) api.Book { return api.Book{Name: name, Year: 2000} }
	return map[string]api.Book{
		"the laws":                     laws(),
		"no articles":                  book(),
		"the first year":               {Name: "b", Year: 1850},
		"the last year":                {Name: "b", Year: 2100},
		"the longest name":             named("a0123456789z12345678"),
		"the name article":             named("article"),
		"the name book":                named("book"),
		"a name that begins with if":   named("iff"),
		"a name that ends with then":   named("1then"),
		"a name of two such words":     named("unlessthen"),
		"the longest text":             longest(),
		"as many articles as possible": chain(api.MaxArticles),
		"the first and last number":    book(article(1, "a then b"), article(9999, "b then c")),
		"most facts":                   book(article(5, "a b c d e f unless g h i j k l then m")),
		"facts that are words":         book(article(5, "article unless book then iff")),
		"facts twice":                  book(article(5, "a a unless b b then c")),
		"a fact asked for and excepted": book(article(5,
			"a unless a then c")),
		"the same Then twice":       book(article(5, "a then c"), article(6, "b then c")),
		"Then asked for behind it":  book(article(5, "a then c"), article(6, "c unless c then d")),
		"Then between both of them": book(article(5, "a then c"), article(6, "c then d"), article(7, "a then d")),
	}
}

// P6.3: valid books.
func TestCheckBookValid(t *testing.T) {
	for name, b := range goodBooks() {
		if e := referee.CheckBook(b); e != api.OK {
			t.Errorf("CheckBook with %s: error %d", name, e)
		}
	}
}

// badBooks are books that are not valid in one thing.
func badBooks() map[string]api.Book {
	seven := slices.Repeat([]string{"a"}, api.MaxIfs+1)
	l := map[string]api.Book{
		"nothing":                        {},
		"a year too early":               {Name: "b", Year: 1849},
		"a year too late":                {Name: "b", Year: 2101},
		"no year":                        {Name: "b"},
		"a year below 0":                 {Name: "b", Year: math.MinInt},
		"the number 0":                   book(article(0, "a then b")),
		"a number below 0":               book(article(-5, "a then b")),
		"a number too great":             book(article(10000, "a then b")),
		"the greatest number":            book(article(math.MaxInt, "a then b")),
		"equal numbers":                  book(article(5, "a then b"), article(5, "b then c")),
		"numbers that decrease":          book(article(5, "a then b"), article(4, "b then c")),
		"numbers that decrease later":    book(article(4, "a then b"), article(6, "b then c"), article(5, "c then d")),
		"no facts in If":                 book(api.Article{Number: 5, Then: "b"}),
		"no facts in If but in Unless":   book(api.Article{Number: 5, Unless: list("a"), Then: "b"}),
		"seven facts in If":              book(api.Article{Number: 5, If: seven, Then: "b"}),
		"seven facts in Unless":          book(api.Article{Number: 5, If: list("c"), Unless: seven, Then: "b"}),
		"no Then":                        book(api.Article{Number: 5, If: list("a")}),
		"its own Then in If":             book(article(5, "a b then b")),
		"its own Then in Unless":         book(article(5, "a unless c b then b")),
		"a later Then in If":             book(article(5, "a b then c"), article(6, "d then e"), article(7, "d then b")),
		"a later Then in Unless":         book(article(5, "a unless f b then c"), article(6, "d then b")),
		"an earlier and a later Then":    book(article(4, "a then b"), article(5, "b then c"), article(6, "c then b")),
		"two articles around each other": book(article(5, "a then b"), article(6, "b then a")),
	}
	for _, s := range append(badNames(), "if", "unless", "then") {
		l["the name "+s] = api.Book{Name: s, Year: 2000}
		l["the name "+s+" and articles"] = api.Book{Name: s, Year: 2000, Articles: laws().Articles}
		l["the fact "+s+" in If"] = book(api.Article{Number: 5, If: []string{"a", s}, Then: "b"})
		l["the fact "+s+" in Unless"] = book(api.Article{Number: 5, If: list("a"), Unless: []string{s}, Then: "b"})
		l["the fact "+s+" as Then"] = book(api.Article{Number: 5, If: list("a"), Then: s})
		l["the fact "+s+" in a later article"] = book(article(5, "a then b"), api.Article{Number: 6, If: []string{s}, Then: "b"})
	}
	return l
}

// P6.3: books that are not valid.
func TestCheckBookErrors(t *testing.T) {
	for name, b := range badBooks() {
		if e := referee.CheckBook(b); e != api.ErrArg {
			t.Errorf("CheckBook with %s: error %d", name, e)
		}
	}
	for name, b := range map[string]api.Book{
		"an article too many":            chain(api.MaxArticles + 1),
		"too many that are not valid":    book(make([]api.Article, api.MaxArticles+1)...),
		"too many in a book of no name":  {Articles: make([]api.Article, api.MaxArticles+1)},
		"far too many with equal number": book(slices.Repeat([]api.Article{article(5, "a then b")}, 1000)...),
	} {
		if e := referee.CheckBook(b); e != api.ErrMany {
			t.Errorf("CheckBook with %s: error %d", name, e)
		}
	}
}
