package referee

import (
	"slices"
	"strconv"
	"strings"

	"roquet/api"
)

// Text returns the text of a book.
func Text(b api.Book) (string, api.Errno) {
	if e := CheckBook(b); e != api.OK {
		return "", e
	}
	var text strings.Builder
	text.WriteString("book " + b.Name + " " + strconv.Itoa(b.Year) + "\n")
	for _, a := range b.Articles {
		text.WriteString(strings.Join(wordsOf(a), " ") + "\n")
	}
	return text.String(), api.OK
}

// wordsOf returns the words of the line of an article.
func wordsOf(a api.Article) []string {
	l := slices.Concat([]string{"article", strconv.Itoa(a.Number), wordIf}, a.If)
	if len(a.Unless) > 0 {
		l = slices.Concat(l, []string{wordUnless}, a.Unless)
	}
	return append(l, wordThen, a.Then)
}

// Parse returns the book with a text.
func Parse(s string) (api.Book, api.Errno) {
	if len(s) > api.MaxBook {
		return api.Book{}, api.ErrLong
	}
	// The book must not hold on to the memory of the text.
	b := read(strings.Clone(s))
	// What is read may lack words, or have others than it should: it is a text only if it is written just so.
	if text, e := Text(b); e != api.OK || text != s {
		return api.Book{}, api.ErrForm
	}
	return b, api.OK
}

// read returns the book that the words of s describe, as far as they can be understood.
func read(s string) api.Book {
	var (
		b    api.Book
		a    api.Article
		fact string
		r    = reader{strings.Fields(s)}
	)
	r.word() // book
	b.Name = r.word()
	b.Year = r.number()
article:
	r.word() // article
	a = api.Article{Number: r.number()}
	r.word() // if
asked:
	switch fact = r.word(); fact {
	case "": // here a text ends, as there is no other article
		return b
	case wordUnless:
		goto excepted
	case wordThen:
		goto brought
	}
	a.If = append(a.If, fact)
	goto asked
excepted:
	switch fact = r.word(); fact {
	case "":
		return b
	case wordThen:
		goto brought
	}
	a.Unless = append(a.Unless, fact)
	goto excepted
brought:
	a.Then = r.word()
	b.Articles = append(b.Articles, a)
	goto article
}

// reader has the words of a text that are left.
type reader struct {
	words []string
}

// word takes the next word; it is empty if there is none.
func (r *reader) word() string {
	if len(r.words) == 0 {
		return ""
	}
	w := r.words[0]
	r.words = r.words[1:]
	return w
}

// number takes the next word as a number; what is none shows when the book is written again.
func (r *reader) number() int {
	n, _ := strconv.Atoi(r.word())
	return n
}
