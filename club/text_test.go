package club_test

import (
	"math"
	"math/rand"
	"slices"
	"strings"
	"testing"

	"roquet/api"
	"roquet/club"
)

// mustText returns the text of doings.
func mustText(t *testing.T, l []api.Doing) string {
	t.Helper()
	s, e := club.Text(l)
	if e != api.OK {
		t.Fatalf("Text(%v): error %d", l, e)
	}
	return s
}

// blow returns a stroke of a kind of blow.
func blow(kind int) api.Doing {
	d := strike(at(-1, 2), 3)
	d.Blow = kind
	return d
}

// P12.7: the text of doings, and the doings with a text.
func TestText(t *testing.T) {
	for _, x := range []struct {
		l    []api.Doing
		text string
	}{
		{nil, ""},
		{doings(choose(0, at(50000, 5000))), "choose 0 50000 5000\n"},
		{doings(lift(3, at(-far, far))), "choose 3 -4194304 4194304 lift\n"},
		{doings(pass(), bisque(), half(), pass()), "pass\nbisque\nbisque half\npass\n"},
		{doings(blow(0), blow(4)), "stroke 0 0 -1 2 3 0\nstroke 0 0 -1 2 3 4\n"},
		{doings(croquet(at(7, -8), at(0, 0), 0)), "stroke 7 -8 0 0 0 1\n"},
		{doings(croquet(at(0, -1), at(far, -far), api.MaxPower, tap(0, 0), mark(5, 3, 7, api.MaxTicks)), pass()), "stroke 0 -1 4194304 -4194304 2097152 1\nmark 0 0 0 0\nmark 5 3 7 1048576\npass\n"},
	} {
		if s := mustText(t, x.l); s != x.text {
			t.Errorf("Text(%v): %q, want %q", x.l, s, x.text)
		}
		if l, e := club.Parse(x.text); !sameDoings(l, x.l) || e != api.OK {
			t.Errorf("Parse(%q): %v, error %d", x.text, l, e)
		}
	}
	if s := mustText(t, []api.Doing{{Kind: api.DoPass, Marks: []api.Mark{}}}); s != "pass\n" {
		t.Errorf("Text of a pass with an empty list of marks: %q", s)
	}
}

// unwritable returns doings that cannot be written.
func unwritable() []api.Doing {
	change := func(d api.Doing, change func(*api.Doing)) api.Doing { change(&d); return d }
	l := doings(
		api.Doing{}, api.Doing{Kind: 5}, api.Doing{Kind: -1},
		choose(4, at(0, 0)), choose(-1, at(0, 0)), choose(0, at(far+1, 0)), lift(0, at(0, math.MinInt64)),
		croquet(at(0, far+1), at(0, 1), 1), strike(at(far+1, 0), 1), strike(at(0, -far-1), 1), strike(at(0, math.MaxInt64), 1),
		strike(at(0, 1), -1), strike(at(0, 1), api.MaxPower+1), blow(-1), blow(5),
		strike(at(0, 1), 1, mark(6, 0, 0, 0)), strike(at(0, 1), 1, tap(0, 1), tap(1, 0)), strike(at(0, 1), 1, make([]api.Mark, 65)...),
	)
	litter := []func(d *api.Doing){
		func(d *api.Doing) { d.Ball = 1 },
		func(d *api.Doing) { d.Lift = true },
		func(d *api.Doing) { d.Half = true },
		func(d *api.Doing) { d.At = at(0, 1) },
		func(d *api.Doing) { d.Aim = at(1, 0) },
		func(d *api.Doing) { d.Power = 1 },
		func(d *api.Doing) { d.Blow = 1 },
		func(d *api.Doing) { d.Marks = []api.Mark{tap(0, 1)} },
	}
	belongs := map[int][]int{api.DoChoose: {0, 1, 3}, api.DoStroke: {3, 4, 5, 6, 7}, api.DoPass: {}, api.DoBisque: {2}}
	for kind := api.DoChoose; kind <= api.DoBisque; kind++ {
		for i, spoil := range litter {
			if !slices.Contains(belongs[kind], i) {
				l = append(l, change(api.Doing{Kind: kind}, spoil))
			}
		}
	}
	return l
}

// P12.7: the errors of Text.
func TestTextErrors(t *testing.T) {
	for _, d := range unwritable() {
		for _, l := range [][]api.Doing{{d}, {pass(), d}, {d, choose(0, at(1, 1))}, append(slices.Repeat(long(), 20), d)} {
			if s, e := club.Text(l); s != "" || e != api.ErrArg {
				t.Errorf("Text(%v): %q, error %d", l, s, e)
			}
		}
	}
	for _, l := range [][]api.Doing{slices.Repeat(doings(pass()), 401), make([]api.Doing, 401), slices.Repeat(long(), 401)} {
		if s, e := club.Text(l); s != "" || e != api.ErrMany {
			t.Errorf("Text of %d doings: %d bytes, error %d", len(l), len(s), e)
		}
	}
	if s := mustText(t, slices.Repeat(doings(pass()), 400)); len(s) != 2000 {
		t.Errorf("Text of 400 passes: %d bytes", len(s))
	}
}

// long returns a stroke with a text of 1,253 bytes.
func long() []api.Doing {
	return doings(croquet(at(-100, -100), at(-100, -100), 10000000/5, slices.Repeat([]api.Mark{tap(1000, 1000)}, 64)...))
}

// P12.7: a text has at most 65,536 bytes.
func TestLongText(t *testing.T) {
	l := slices.Repeat(long(), 52)
	s := mustText(t, l)
	l = append(l, slices.Repeat(doings(pass()), (api.MaxRecord-len(s))/5)...)
	s = mustText(t, l)
	if got, e := club.Parse(s); len(s) != api.MaxRecord || !sameDoings(got, l) || e != api.OK {
		t.Errorf("a text of %d bytes: %d doings, error %d", len(s), len(got), e)
	}
	l[0].At.X *= 10
	if s, e := club.Text(l); s != "" || e != api.ErrLong {
		t.Errorf("Text of a byte more: %d bytes, error %d", len(s), e)
	}
	for _, s := range []string{s + "\n", strings.Repeat("x", api.MaxRecord+1), strings.Replace(s, "pass", "passs", 1)} {
		if l, e := club.Parse(s); len(l) > 0 || e != api.ErrLong {
			t.Errorf("Parse of %d bytes: %d doings, error %d", len(s), len(l), e)
		}
	}
	if l, e := club.Parse(strings.Repeat("x", api.MaxRecord)); len(l) > 0 || e != api.ErrForm {
		t.Errorf("Parse of %d letters: %d doings, error %d", api.MaxRecord, len(l), e)
	}
	if l, e := club.Parse(strings.Repeat("pass\n", 401)); len(l) > 0 || e != api.ErrForm {
		t.Errorf("Parse of 401 passes: %d doings, error %d", len(l), e)
	}
}

// P12.7: what is no text of doings.
func TestParseErrors(t *testing.T) {
	for _, s := range []string{
		"\n", " ", "pass", "pass\n\n", "\npass\n", " pass\n", "pass \n", "pass\r\n", "Pass\n", "pass pass\n", "pass half\n", "pass 0\n", "x\n", "pass\nx\n", "pass\x00\n", "\tpass\n",
		"choose\n", "choose 0\n", "choose 0 1\n", "choose 0 1 2", "choose 0 1 2 \n", "choose 0  1 2\n", "choose 0 1 2 3\n", "choose 0 1 2 lift lift\n", "choose 0 1 2 half\n", "choose 0 lift 1 2\n", "choose 0 1 2\nlift\n",
		"choose 4 1 2\n", "choose -1 1 2\n", "choose 00 1 2\n", "choose 0 01 2\n", "choose 0 +1 2\n", "choose 0 -0 2\n", "choose 0 1.0 2\n", "choose 0 1e1 2\n", "choose 0 0x1 2\n", "choose 0 1_0 2\n", "choose 0 4194305 2\n", "choose 0 1 -4194305\n",
		"choose 0 9223372036854775808 2\n", "choose 4294967296 1 2\n", "choose 18446744073709551616 1 2\n", "choose 0 ١ 2\n",
		"stroke 0 0 0 1 2\n", "stroke 0 0 0 1 2 1 0\n", "stroke 0 0 0 1 2 5\n", "stroke 0 0 0 1 2 -1\n", "stroke 0 0 0 1 -2 1\n", "stroke 0 0 0 1 2097153 1\n", "stroke 0 0 4194305 1 2 1\n", "stroke 4194305 0 0 1 2 1\n", "stroke 0 0 0 1\n2 1\n",
		"mark 0 0 0 1\n", "pass\nmark 0 0 0 1\n", "choose 0 1 2\nmark 0 0 0 1\n", "stroke 0 0 0 1 2 1\nmark 0 0 0\n", "stroke 0 0 0 1 2 1\nmark 0 0 0 1 2\n", "stroke 0 0 0 1 2 1\nmark 6 0 0 1\n", "stroke 0 0 0 1 2 1\nmark 0 4 0 1\n",
		"stroke 0 0 0 1 2 1\nmark 0 0 2 1\n", "stroke 0 0 0 1 2 1\nmark 0 0 0 1048577\n", "stroke 0 0 0 1 2 1\n mark 0 0 0 1\n", "stroke 0 0 0 1 2 1 mark 0 0 0 1\n", "stroke 0 0 0 1 2 1\n\nmark 0 0 0 1\n", "stroke 0 0 0 1 2 1\npass\nmark 0 0 0 1\n",
		"stroke 0 0 0 1 2 1\n" + strings.Repeat("mark 0 0 0 1\n", 65),
		"bisque half half\n", "bisque halves\n", "bisque lift\n", "bisque 1\n", "bisque\nhalf\n", "half\n", "lift\n", "0\n",
	} {
		if l, e := club.Parse(s); len(l) > 0 || e != api.ErrForm {
			t.Errorf("Parse(%q): %v, error %d", s, l, e)
		}
	}
}

// anyWritten returns a doing that can be written.
func anyWritten(r *rand.Rand) api.Doing {
	place := func() api.Point {
		most := int64(1) << from(r, 0, 22)
		return at(from(r, -most, most), from(r, -most, most))
	}
	switch r.Intn(5) {
	case 0:
		return choose(r.Intn(4), place())
	case 1:
		return lift(r.Intn(4), place())
	case 2:
		return among(r, pass(), bisque(), half())
	}
	d := croquet(place(), place(), from(r, 0, api.MaxPower), anyMarks(r)...)
	d.Blow = r.Intn(5)
	return d
}

// P12.7: Parse returns doings for their text, and nothing but this text has them.
func TestParseText(t *testing.T) {
	r := dice(7)
	for range 300 {
		var l []api.Doing
		for range r.Intn(8) {
			l = append(l, anyWritten(r))
		}
		s := mustText(t, l)
		if got, e := club.Parse(s); !sameDoings(got, l) || e != api.OK {
			t.Errorf("Parse(%q): %v, error %d, want %v", s, got, e, l)
		}
		for range 20 {
			x := broken(r, s)
			got, e := club.Parse(x)
			if e != api.OK {
				if len(got) > 0 || e != api.ErrForm {
					t.Errorf("Parse(%q): %v, error %d", x, got, e)
				}
			} else if again := mustText(t, got); again != x {
				t.Errorf("Parse(%q): %v, and its text is %q", x, got, again)
			}
		}
	}
}

// broken returns a text with a change of a few bytes.
func broken(r *rand.Rand, s string) string {
	b := []byte(s)
	for range 1 + r.Intn(2) {
		i := r.Intn(len(b) + 1)
		switch c := " \n0123456789-+abchlmpst"[r.Intn(23)]; {
		case r.Intn(3) == 0 || i == len(b):
			b = slices.Insert(b, i, c)
		case r.Intn(2) == 0:
			b = slices.Delete(b, i, i+1)
		default:
			b[i] = c
		}
	}
	return string(b)
}
