package lawn

import (
	"strconv"
	"strings"

	"roquet/api"
)

// axes are the words for the direction in which a hoop is run: along X, and along Y.
func axes() pair[string] { return pair[string]{"x", "y"} }

// Text returns the text of a lawn.
func Text(l api.Lawn) (string, api.Errno) {
	if e := Check(l); e != api.OK {
		return "", e
	}
	var text strings.Builder
	line := func(words ...string) {
		text.WriteString(strings.Join(words, " "))
		text.WriteByte('\n')
	}
	line("lawn", l.Name, decimal(l.Wide), decimal(l.Long), decimal(l.Yard))
	for _, h := range l.Hoops {
		line("hoop", decimal(h.X), decimal(h.Y), decimal(h.Gap), decimal(h.Wire), axes().of(h.Along))
	}
	line("peg", decimal(l.Peg.At.X), decimal(l.Peg.At.Y), decimal(l.Peg.R))
	line("cells", decimal(int64(l.NX)), decimal(int64(l.NY)))
	for _, c := range l.Cells {
		line("cell", decimal(c.Drag), decimal(c.DX), decimal(c.DY))
	}
	return text.String(), api.OK
}

// decimal returns n as it stands in a text.
func decimal(n int64) string { return strconv.FormatInt(n, 10) }

// Parse returns the lawn with a text.
func Parse(s string) (api.Lawn, api.Errno) {
	if len(s) > api.MaxText {
		return api.Lawn{}, api.ErrLong
	}
	l := read(s)
	// What is read may be in any order, lack words, or have too many: it is a text only if it is written just so.
	if text, e := Text(l); e != api.OK || text != s {
		return api.Lawn{}, api.ErrForm
	}
	return l, api.OK
}

// read returns the lawn that the lines of s describe, as far as they can be understood.
func read(s string) api.Lawn {
	var r reader
	means := meanings()
	for _, line := range strings.Split(s, "\n") {
		r.words = strings.Split(line, " ")
		if take := means[r.word()]; take != nil {
			take(&r)
		}
	}
	return r.lawn
}

// meanings returns what the first word of a line means: how the others are read.
func meanings() map[string]func(*reader) {
	return map[string]func(*reader){
		"lawn":  (*reader).readLawn,
		"hoop":  (*reader).readHoop,
		"peg":   (*reader).readPeg,
		"cells": (*reader).readCells,
		"cell":  (*reader).readCell,
	}
}

// reader has what was read of a lawn, and the words that are left of a line.
type reader struct {
	lawn  api.Lawn
	words []string
}

// word takes the next word of the line; it is empty if there is none.
func (r *reader) word() string {
	if len(r.words) == 0 {
		return ""
	}
	w := r.words[0]
	r.words = r.words[1:]
	return w
}

// number takes the next word of the line as a number; what is none shows when the lawn is written again.
func (r *reader) number() int64 {
	n, _ := strconv.ParseInt(r.word(), 10, 64)
	return n
}

// point takes the next two numbers of the line.
func (r *reader) point() api.Point {
	x := r.number()
	return api.Point{X: x, Y: r.number()}
}

// readLawn reads the line of the name and the sides.
func (r *reader) readLawn() {
	// The lawn must not hold on to the memory of the whole text.
	r.lawn.Name = strings.Clone(r.word())
	r.lawn.Wide = r.number()
	r.lawn.Long = r.number()
	r.lawn.Yard = r.number()
}

// readHoop reads the line of a hoop.
func (r *reader) readHoop() {
	at := r.point()
	gap := r.number()
	wire := r.number()
	along := r.word() == axes().first
	r.lawn.Hoops = append(r.lawn.Hoops, api.Hoop{X: at.X, Y: at.Y, Gap: gap, Wire: wire, Along: along})
}

// readPeg reads the line of the peg.
func (r *reader) readPeg() {
	r.lawn.Peg.At = r.point()
	r.lawn.Peg.R = r.number()
}

// readCells reads the line with the numbers of cells.
func (r *reader) readCells() {
	r.lawn.NX = int(r.number())
	r.lawn.NY = int(r.number())
}

// readCell reads the line of a cell.
func (r *reader) readCell() {
	drag := r.number()
	slope := r.point()
	r.lawn.Cells = append(r.lawn.Cells, api.Cell{Drag: drag, DX: slope.X, DY: slope.Y})
}
