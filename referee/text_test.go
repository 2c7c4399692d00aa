package referee_test

import (
	"slices"
	"strings"
	"testing"

	"roquet/api"
	"roquet/referee"
)

// P6.3: the text of a book.
func TestText(t *testing.T) {
	if s := mustText(t, laws()); s != lawsText {
		t.Errorf("Text: %q", s)
	}
	if b, e := referee.Parse(lawsText); !sameBook(b, laws()) || e != api.OK {
		t.Errorf("Parse: %v, error %d", b, e)
	}
	const words = "book b 2000\narticle 5 if article article unless book 5 then 10\n"
	b := book(article(5, "article article unless book 5 then 10"))
	if s := mustText(t, b); s != words {
		t.Errorf("Text of facts that look like other words: %q", s)
	}
	if s := mustText(t, book()); s != "book b 2000\n" {
		t.Errorf("Text of no articles: %q", s)
	}
	b.Articles[0].Unless = []string{}
	if s := mustText(t, b); s != "book b 2000\narticle 5 if article article then 10\n" {
		t.Errorf("Text of an empty Unless: %q", s)
	}
}

// P6.3: Text returns the error of CheckBook.
func TestTextErrors(t *testing.T) {
	for name, b := range badBooks() {
		if s, e := referee.Text(b); s != "" || e != api.ErrArg {
			t.Errorf("Text with %s: %q, error %d", name, s, e)
		}
	}
	if s, e := referee.Text(chain(api.MaxArticles + 1)); s != "" || e != api.ErrMany {
		t.Errorf("Text with too many articles: %q, error %d", s, e)
	}
}

// P6.11: Parse returns a valid book for its text, if this is not too long.
func TestParseText(t *testing.T) {
	r := dice(65)
	books := goodBooks()
	for range 300 {
		b := anyBook(r, true)
		books[mustText(t, b)] = b
	}
	for name, b := range books {
		s := mustText(t, b)
		got, e := referee.Parse(s)
		if len(s) > api.MaxBook {
			if !sameBook(got, api.Book{}) || e != api.ErrLong {
				t.Errorf("Parse of %s, %d bytes: error %d", name, len(s), e)
			}
		} else if !sameBook(got, b) || e != api.OK {
			t.Errorf("Parse of %q: %v, error %d", s, got, e)
		}
	}
	if len(mustText(t, longest())) <= api.MaxBook {
		t.Error("the longest text is not too long")
	}
}

// filled returns the valid book whose text has just MaxBook bytes: the first articles of the longest one, the last of them with shorter facts.
func filled(t *testing.T) api.Book {
	b := longest()
	const most = 2 * api.MaxIfs * (api.MaxName - 1) // what can be cut off the facts of an article
	for len(mustText(t, b)) > api.MaxBook+most {
		b.Articles = b.Articles[:len(b.Articles)-1]
	}
	over := len(mustText(t, b)) - api.MaxBook
	last := b.Articles[len(b.Articles)-1]
	for _, l := range [][]string{last.If, last.Unless} {
		for k := range l {
			cut := min(over, api.MaxName-1)
			l[k] = l[k][cut:]
			over -= cut
		}
	}
	return b
}

// P6.3: ErrLong comes for more than MaxBook bytes, and not for as many.
func TestParseLong(t *testing.T) {
	b := filled(t)
	s := mustText(t, b)
	if got, e := referee.Parse(s); len(s) != api.MaxBook || !sameBook(got, b) || e != api.OK {
		t.Errorf("Parse of a text of %d bytes: error %d", len(s), e)
	}
	for _, unit := range []string{" ", "\n", "a", "book b 2000\n", "article 5 if a then b\n", "if ", "unless ", "then ", "article 5 if a unless b ", "\xff"} {
		s := strings.Repeat(unit, api.MaxBook)[:api.MaxBook]
		if b, e := referee.Parse(s); !sameBook(b, api.Book{}) || e != api.ErrForm {
			t.Errorf("Parse of MaxBook bytes of %q: error %d", unit, e)
		}
		if b, e := referee.Parse(s + "\n"); !sameBook(b, api.Book{}) || e != api.ErrLong {
			t.Errorf("Parse of a byte more of %q: error %d", unit, e)
		}
	}
	if _, e := referee.Parse(lawsText + strings.Repeat("\n", api.MaxBook)); e != api.ErrLong {
		t.Errorf("Parse of a long text: error %d", e)
	}
}

// badTexts are texts that are nearly that of the book of the examples.
func badTexts() []string {
	l := []string{
		"", "\n", " ", "book", "book\n", "book b\n", "book b 2000", "2000 b book\n", "article 5 if a then b\n", "book b 2000\nbook b 2000\n", "book 2000\n", "book  2000\n",
		"book if 2000\n", "book unless 2000\n", "book then 2000\n",
		lawsText + "\n", "\n" + lawsText, lawsText + lawsText, lawsText + " ", " " + lawsText, lawsText[:len(lawsText)-1], strings.TrimPrefix(lawsText, "book laws 2021\n"),
		strings.Repeat("article 1 if a then b\n", 65), "book b 2000\n" + strings.Repeat("article 1 if a then b\n", 65),
	}
	for _, x := range [][2]string{
		{"book laws", "book  laws"}, {"book laws", "book Laws"}, {"book laws", "Book laws"}, {"book laws", "books laws"}, {"book laws ", "book "}, {"book laws", "book if"}, {"book laws", "book unless"}, {"book laws", "book then"}, {"laws", "l\u00e4ws"}, {"laws", "laws\u00a0"},
		{" 2021\n", " 2021 \n"}, {" 2021\n", " 2021\r\n"}, {" 2021\n", " 2021\n\n"}, {" 2021\n", " 2021 0\n"}, {" 2021\n", "\n"}, {" 2021\n", " "}, {" 2021\n", "\n2021\n"},
		{"2021", "02021"}, {"2021", "+2021"}, {"2021", "2_021"}, {"2021", "0x7e5"}, {"2021", "1849"}, {"2021", "2101"}, {"2021", "-2021"}, {"2021", "18446744073709553637"}, {"2021", "\u0662021"},
		{"article 10", "article 010"}, {"article 10", "article 0"}, {"article 10", "article -10"}, {"article 10", "article 20"}, {"article 10", "article 10000"}, {"article 10", "article"}, {"article 10", "10"}, {"article 10", "articles 10"}, {"article 10", "article ten"}, {"article 10", "article 10 10"},
		{"10 if", "10"}, {"10 if", "10 when"}, {"10 if", "10 If"}, {"10 if", "10 if if"}, {"10 if", "10 unless"}, {"10 if", "10 then"}, {"10 if double", "10 if"}, {"10 if double unless shook", "10 unless shook"}, {"10 if double", "10 if double then"},
		{"unless shook", "unless"}, {"unless shook", "unless unless"}, {"unless shook", "unless shook unless shook"}, {"unless shook", "unless if"}, {"unless shook", "unless  shook"}, {"unless shook", "unless fault"}, {"unless shook", "Unless shook"},
		{"then fault", "then"}, {"then fault", "then fault fault"}, {"then fault", "then then"}, {"then fault", "then if"}, {"then fault", "then fault unless shook"}, {"then fault", "fault"}, {"then fault", "then double"}, {"then fault", "then fault then fault"}, {"then fault", "\tthen fault"},
		{"fault then", "fault\nthen"}, {"ended wire", "ended\nwire"}, {"ended wire", "ended,wire"}, {"ended wire", "a b c d e f g"}, {"fault\narticle", "fault article"}, {"fault\narticle", "fault\n\narticle"},
		{"warned", "warned\nnote"}, {"warned", "warned article"}, {"warned", "warned\narticle 40"}, {"warned", "warned\narticle 40 if"}, {"warned", "warned\narticle 40 if x"}, {"warned", "warned\narticle 40 if x unless"}, {"warned", "warned\narticle 40 if x unless y"}, {"warned", "warned\narticle 40 if x then"},
		{"book", "book\x00"}, {"book", "\ufeffbook"}, {"warned", strings.Repeat("w", api.MaxName+1)},
	} {
		l = append(l, strings.Replace(lawsText, x[0], x[1], 1))
	}
	lines := strings.SplitAfter(strings.TrimSuffix(lawsText, "\n"), "\n")
	for k := range lines[:len(lines)-1] {
		turned := slices.Clone(lines)
		turned[k], turned[k+1] = turned[k+1], turned[k]
		l = append(l, strings.Join(turned, ""), strings.Join(turned, "")+"\n")
	}
	return l
}

// P6.3: what is not the text of a valid book is ErrForm.
func TestParseForm(t *testing.T) {
	for _, s := range badTexts() {
		if b, e := referee.Parse(s); !sameBook(b, api.Book{}) || e != api.ErrForm {
			t.Errorf("Parse of %q: %v, error %d", s, b, e)
		}
	}
}

// P6.11: nothing else has the text of a book: each text that differs by a byte has another book, or none.
func TestParseNothingElse(t *testing.T) {
	try := func(s string) {
		b, e := referee.Parse(s)
		if e == api.ErrForm && sameBook(b, api.Book{}) {
			return
		}
		if text, again := referee.Text(b); e != api.OK || again != api.OK || text != s {
			t.Errorf("Parse of %q: %v, error %d, with the text %q", s, b, e, text)
		}
	}
	const bytes = " \n\r\t-+01259_abfhinot\x00\xff."
	for k := range len(lawsText) + 1 {
		try(lawsText[:k])
		if k < len(lawsText) {
			try(lawsText[:k] + lawsText[k+1:])
		}
		for b := range len(bytes) {
			try(lawsText[:k] + bytes[b:b+1] + lawsText[k:])
			if k < len(lawsText) {
				try(lawsText[:k] + bytes[b:b+1] + lawsText[k+1:])
			}
		}
	}
}
