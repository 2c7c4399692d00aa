package club

import (
	"slices"
	"strconv"
	"strings"

	"roquet/api"
	"roquet/turf"
)

// The words of the text of doings.
const (
	wordChoose = "choose"
	wordLift   = "lift"
	wordStroke = "stroke"
	wordMark   = "mark"
	wordPass   = "pass"
	wordBisque = "bisque"
	wordHalf   = "half"
)

// Text returns the text of doings.
func Text(l []api.Doing) (string, api.Errno) {
	if len(l) > api.MaxDoings {
		return "", api.ErrMany
	}
	var text strings.Builder
	for _, d := range l {
		a := actOf(d)
		if a == nil || !isWritable(d, a) {
			return "", api.ErrArg
		}
		for _, line := range a.lines() {
			text.WriteString(line + "\n")
		}
	}
	if text.Len() > api.MaxRecord {
		return "", api.ErrLong
	}
	return text.String(), api.OK
}

// isWritable reports whether a doing can be written, with what it says.
func isWritable(d api.Doing, a act) bool {
	return a.isValid() && turf.Check(d.Aim) == api.OK && between(d.Power, 0, api.MaxPower) &&
		between(d.Blow, api.BlowStop, api.BlowJump) && isSame(d, a.doing())
}

// isSame reports whether two doings are the same.
func isSame(a, b api.Doing) bool {
	return a.Kind == b.Kind && a.Ball == b.Ball && a.Lift == b.Lift && a.Half == b.Half && a.At == b.At &&
		a.Aim == b.Aim && a.Power == b.Power && a.Blow == b.Blow && slices.Equal(a.Marks, b.Marks)
}

func (a choose) doing() api.Doing {
	return api.Doing{Kind: api.DoChoose, Ball: a.ball, Lift: a.lift, At: a.at}
}

func (a strike) doing() api.Doing {
	return api.Doing{Kind: api.DoStroke, At: a.at, Aim: a.aim, Power: a.power, Blow: a.blow, Marks: a.marks}
}

func (pass) doing() api.Doing { return api.Doing{Kind: api.DoPass} }

func (a bisque) doing() api.Doing { return api.Doing{Kind: api.DoBisque, Half: a.half} }

func (a choose) lines() []string {
	l := line(wordChoose, int64(a.ball), a.at.X, a.at.Y)
	if a.lift {
		l += " " + wordLift
	}
	return []string{l}
}

func (a strike) lines() []string {
	l := []string{line(wordStroke, a.at.X, a.at.Y, a.aim.X, a.aim.Y, a.power, int64(a.blow))}
	for _, m := range a.marks {
		l = append(l, line(wordMark, int64(m.Kind), int64(m.Ball), m.From, m.To))
	}
	return l
}

func (pass) lines() []string { return []string{wordPass} }

func (a bisque) lines() []string {
	l := wordBisque
	if a.half {
		l += " " + wordHalf
	}
	return []string{l}
}

// line returns a line that begins with a word, without its line feed.
func line(word string, numbers ...int64) string {
	for _, n := range numbers {
		word += " " + strconv.FormatInt(n, 10)
	}
	return word
}

// Parse returns the doings with a text.
func Parse(s string) ([]api.Doing, api.Errno) {
	if len(s) > api.MaxRecord {
		return nil, api.ErrLong
	}
	l := read(s)
	// What is read may lack words, or have others than it should: it is a text only if it is written just so.
	if text, e := Text(l); e != api.OK || text != s {
		return nil, api.ErrForm
	}
	return l, api.OK
}

// read returns the doings that the lines of s describe, as far as they can be understood.
func read(s string) []api.Doing {
	var l []api.Doing
	for _, text := range strings.Split(s, "\n") {
		w := words(strings.Split(text, " "))
		switch first := w.word(0); {
		case first == wordMark && len(l) > 0:
			last := &l[len(l)-1]
			last.Marks = append(last.Marks, w.mark())
		case first != "":
			l = append(l, w.doing())
		}
	}
	return l
}

// words are those of a line.
type words []string

// word returns the word at an index; it is empty if there is none.
func (w words) word(i int) string {
	if i >= len(w) {
		return ""
	}
	return w[i]
}

// number returns the word at an index as a number; what is none shows when the doings are written again.
func (w words) number(i int) int64 {
	n, _ := strconv.ParseInt(w.word(i), 10, 64)
	return n
}

// point returns two words from an index on as a point.
func (w words) point(i int) api.Point {
	return api.Point{X: w.number(i), Y: w.number(i + 1)}
}

// mark returns the mark of a line.
func (w words) mark() api.Mark {
	return api.Mark{Kind: int(w.number(1)), Ball: int(w.number(2)), From: w.number(3), To: w.number(4)}
}

// doing returns the doing of a line, without marks. It has no kind if the first word is not that of a doing.
func (w words) doing() api.Doing {
	switch w.word(0) {
	case wordChoose:
		return api.Doing{Kind: api.DoChoose, Ball: int(w.number(1)), At: w.point(2), Lift: w.word(4) == wordLift}
	case wordStroke:
		return api.Doing{Kind: api.DoStroke, At: w.point(1), Aim: w.point(3), Power: w.number(5), Blow: int(w.number(6))}
	case wordPass:
		return api.Doing{Kind: api.DoPass}
	case wordBisque:
		return api.Doing{Kind: api.DoBisque, Half: w.word(1) == wordHalf}
	}
	return api.Doing{}
}
