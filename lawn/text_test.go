package lawn_test

import (
	"slices"
	"strings"
	"testing"

	"roquet/api"
	"roquet/lawn"
)

// greenText is the text of the lawn of the examples.
const greenText = "lawn green 100000 200000 5000\n" +
	"hoop 50000 40000 6000 500 y\n" +
	"hoop 30000 100000 6000 500 x\n" +
	"peg 50000 100000 1200\n" +
	"cells 2 1\n" +
	"cell 100 0 0\n" +
	"cell 200 5 -5\n"

// P2.1: the text of a lawn.
func TestText(t *testing.T) {
	if s, e := lawn.Text(green()); s != greenText || e != api.OK {
		t.Errorf("Text: %q, error %d", s, e)
	}
	if l, e := lawn.Parse(greenText); !same(l, green()) || e != api.OK {
		t.Errorf("Parse: %v, error %d", l, e)
	}
}

// P2.8: Parse returns a valid lawn for its text.
func TestParseText(t *testing.T) {
	r := dice()
	lawns := []api.Lawn{green(), small(), largest(), with(green(), func(l *api.Lawn) { l.Name = "hoop" })}
	for range 200 {
		lawns = append(lawns, anyLawn(r))
	}
	for _, l := range lawns {
		s, e := lawn.Text(l)
		if e != api.OK || len(s) > api.MaxText {
			t.Fatalf("Text of %v: %d bytes, error %d", l, len(s), e)
		}
		if got, e := lawn.Parse(s); !same(got, l) || e != api.OK {
			t.Errorf("Parse of %q: %v, error %d", s, got, e)
		}
	}
}

// badTexts are texts that are nearly that of the lawn of the examples.
func badTexts() []string {
	l := []string{"", "\n", " ", "lawn", "lawn\n", greenText + "\n", "\n" + greenText, greenText + greenText, greenText + " ", greenText + "cell 0 0 0\n", greenText[:len(greenText)-1]}
	for _, x := range [][2]string{
		{"lawn green", "lawn  green"}, {"lawn green", "lawn Green"}, {"lawn green", "Lawn green"}, {"lawn green ", "lawn "}, {"lawn green", "lawn gr\u00fcn"},
		{"lawn green", "green"}, {" 5000\n", " 5000 \n"}, {" 5000\n", " 5000\r\n"}, {" 5000\n", " 5000\n\n"}, {" 5000\n", " 5000 0\n"}, {" 5000\n", "\n"},
		{" 5000\n", " 05000\n"}, {" 5000\n", " +5000\n"}, {" 5000\n", " 5_000\n"}, {" 5000\n", " 0x1388\n"}, {" 5000\n", " 5e3\n"}, {" 5000\n", " -0\n"}, {" 5000\n", " -1\n"},
		{" 5000\n", " 18446744073709556616\n"}, {" 5000\n", " 25001\n"}, {" 5000\n", "\t5000\n"}, {" 5000\n", " ٥\n"},
		{" y\n", " Y\n"}, {" y\n", " z\n"}, {" y\n", "\n"}, {" y\n", " y y\n"}, {" y\n", " yx\n"}, {" x\n", " true\n"}, {"6000", "6001"},
		{"peg", "pegs"}, {"peg", " peg"}, {" 1200", ""}, {"cells 2 1", "cells 1 2 "}, {"cells 2 1", "cells 2 2"}, {"cells 2 1", "cells 1 1"}, {"cells 2 1\n", ""}, {"cells 2 1", "cells 2"},
		{"cells 2 1", "cells 4294967298 1"}, {" 0 0", " -0 0"}, {" 0 0", " 0"}, {" -5\n", " -05\n"}, {" -5\n", " --5\n"}, {" -5\n", " - 5\n"}, {" -5\n", " -4097\n"}, {"cell 100", "cell 65537"}, {"cell 100", "cell -1"},
		{"peg 50000 100000 1200\n", ""}, {"peg 50000 100000 1200\n", "peg 50000 100000 1200\npeg 50000 100000 1200\n"},
		{"peg 50000 100000 1200\n", "peg 1 1 1\npeg 50000 100000 1200\n"}, {"peg 50000 100000 1200\n", "# peg\npeg 50000 100000 1200\n"},
		{"lawn", "lawn\x00"}, {"lawn", "\ufefflawn"}, {"peg 50000 100000", "peg 46500 40000"},
	} {
		l = append(l, strings.ReplaceAll(greenText, x[0], x[1]))
	}
	lines := strings.SplitAfter(strings.TrimSuffix(greenText, "\n"), "\n")
	for k := range lines[:len(lines)-1] {
		turned := slices.Clone(lines)
		turned[k], turned[k+1] = turned[k+1], turned[k]
		if k != 1 && k != 5 { // two hoops, or two cells, make another lawn
			l = append(l, strings.Join(turned, ""), strings.Join(turned, "")+"\n")
		}
	}
	return l
}

// P2.1: what is not the text of a valid lawn is ErrForm.
func TestParseForm(t *testing.T) {
	for _, s := range badTexts() {
		if l, e := lawn.Parse(s); !same(l, api.Lawn{}) || e != api.ErrForm {
			t.Errorf("Parse of %q: %v, error %d", s, l, e)
		}
	}
	none := strings.ReplaceAll(strings.ReplaceAll(greenText, "hoop 50000 40000 6000 500 y\n", ""), "hoop 30000 100000 6000 500 x\n", "")
	if _, e := lawn.Parse(none); e != api.ErrForm {
		t.Errorf("Parse without hoops: error %d", e)
	}
}

// P2.1: ErrLong comes for more than MaxText bytes, and not for as many.
func TestParseLong(t *testing.T) {
	for _, unit := range []string{" ", "\n", "hoop\n", "cell 1 1 1\n", "a", "lawn green 0 0 0\n"} {
		s := strings.Repeat(unit, api.MaxText)[:api.MaxText]
		if l, e := lawn.Parse(s); !same(l, api.Lawn{}) || e != api.ErrForm {
			t.Errorf("Parse of MaxText bytes of %q: error %d", unit, e)
		}
		if l, e := lawn.Parse(s + "a"); !same(l, api.Lawn{}) || e != api.ErrLong {
			t.Errorf("Parse of a byte more of %q: error %d", unit, e)
		}
	}
	if _, e := lawn.Parse(greenText + strings.Repeat("\n", api.MaxText)); e != api.ErrLong {
		t.Errorf("Parse of a long text: error %d", e)
	}
}

// P2.8: nothing else has the text: each text that differs by a byte has another lawn, or none.
func TestParseNothingElse(t *testing.T) {
	try := func(s string) {
		l, e := lawn.Parse(s)
		if e == api.ErrForm && same(l, api.Lawn{}) {
			return
		}
		if text, again := lawn.Text(l); e != api.OK || again != api.OK || text != s {
			t.Errorf("Parse of %q: %v, error %d, with the text %q", s, l, e, text)
		}
	}
	const bytes = " \n\r\t-+0123459_axyhcp\x00\xff."
	for k := range len(greenText) + 1 {
		if k < len(greenText) {
			try(greenText[:k] + greenText[k+1:])
		}
		try(greenText[:k])
		for b := range len(bytes) {
			try(greenText[:k] + bytes[b:b+1] + greenText[k:])
			if k < len(greenText) {
				try(greenText[:k] + bytes[b:b+1] + greenText[k+1:])
			}
		}
	}
}
