package referee_test

import (
	"slices"
	"testing"

	"roquet/api"
	"roquet/referee"
)

// lawsText is the text of the book of the examples.
const lawsText = "book laws 2021\n" +
	"article 10 if double unless shook then fault\n" +
	"article 20 if fault then ended\n" +
	"article 30 if ended wire then warned\n"

// The chapter's examples of wired balls.
func TestExamplesWired(t *testing.T) {
	i, k, e := referee.Open(green(), disc(50000, 30000, ball), disc(50000, 50000, ball))
	if i != 0 || k != 0 || e != api.OK {
		t.Errorf("Open: %d %d, error %d", i, k, e)
	}
	i, k, e = referee.Open(green(), disc(46500, 35000, 300), disc(46500, 45000, 300))
	if i != 0 || k != 0 || e != api.ErrWired {
		t.Errorf("Open behind a wire: %d %d, error %d", i, k, e)
	}
}

// The chapter's examples of books.
func TestExamplesBook(t *testing.T) {
	facts, numbers := mustFollow(t, laws(), list("double wire"))
	if !slices.Equal(facts, list("fault ended warned")) || !slices.Equal(numbers, []int{10, 20, 30}) {
		t.Errorf("Follows: %v, %v", facts, numbers)
	}
	way, e := referee.Why(laws(), list("double wire"), "warned")
	if !slices.Equal(way, []int{10, 20, 30}) || e != api.OK {
		t.Errorf("Why: %v, error %d", way, e)
	}
	if facts, numbers = mustFollow(t, laws(), list("double shook")); len(facts) != 0 || len(numbers) != 0 {
		t.Errorf("Follows with an exception: %v, %v", facts, numbers)
	}
}

// The chapter's example of marks.
func TestExampleFacts(t *testing.T) {
	l := []api.Mark{mallet(5, 9), mallet(12, 13), moved(1, 3, 3)}
	if facts := mustFacts(t, l, 0, 3); !slices.Equal(facts, list("struck double push shook late")) {
		t.Errorf("Facts: %v", facts)
	}
}

// The chapter's example of a ball that is replaced.
func TestExampleReplace(t *testing.T) {
	p, e := referee.Replace(green(), at(50000, 70000), ball, []api.Disc{disc(50000, 71000, ball)})
	if p != at(50000, 65106) || e != api.OK {
		t.Errorf("Replace: %v, error %d", p, e)
	}
}

// The example of README.md.
func TestReadme(t *testing.T) {
	b, e := referee.Parse(lawsText)
	if e != api.OK {
		t.Fatalf("Parse: error %d", e)
	}
	marks := []api.Mark{{Kind: api.MarkMallet, From: 5, To: 6}, {Kind: api.MarkMallet, From: 12, To: 13}}
	fault, way, e := referee.Judge(b, marks, 0, 3, "fault")
	if !fault || !slices.Equal(way, []int{10}) || e != api.OK {
		t.Errorf("Judge: %v, %v, error %d", fault, way, e)
	}
	facts, e := referee.Facts(marks, 0, 3)
	if !slices.Equal(facts, list("struck double")) || e != api.OK {
		t.Errorf("Facts: %v, error %d", facts, e)
	}
	if e := referee.CheckWhy(b, facts, "fault", way); e != api.OK {
		t.Errorf("CheckWhy: error %d", e)
	}
	one, other := disc(46500, 35000, 300), disc(46500, 45000, 300)
	if _, _, e := referee.Open(green(), one, other); e != api.ErrWired {
		t.Errorf("Open: error %d", e)
	}
	proof, e := referee.Cut(green(), one, other)
	if e != api.OK || referee.CheckCut(green(), one, other, proof) != api.OK {
		t.Errorf("Cut: %v, error %d", proof, e)
	}
}
