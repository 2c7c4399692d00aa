package lawn_test

import (
	"math"
	"slices"
	"strings"
	"testing"

	"roquet/api"
	"roquet/lawn"
)

// P2.1: lawns at the limits are valid.
func TestCheckValid(t *testing.T) {
	for name, l := range map[string]api.Lawn{
		"green": green(), "small": small(), "largest": largest(),
		"no yard":          with(green(), func(l *api.Lawn) { l.Yard = 0 }),
		"widest yard":      with(green(), func(l *api.Lawn) { l.Yard = 25000 }),
		"yard rounded":     with(green(), func(l *api.Lawn) { l.Wide, l.Yard = 100003, 25000 }),
		"yard of the long": with(green(), func(l *api.Lawn) { l.Wide, l.Yard = 400000, 50000 }),
		"digits":           with(green(), func(l *api.Lawn) { l.Name = "0az9" }),
		"peg at a corner":  with(green(), func(l *api.Lawn) { l.Peg = disc(100000-7, 200000-7, 7) }),
		"peg at a wire":    with(green(), func(l *api.Lawn) { l.Peg = disc(46500, 41700, 1200) }),
		"hoop at a side":   with(green(), func(l *api.Lawn) { l.Hoops[0].X = 4000 }),
		"hoop at the end":  with(green(), func(l *api.Lawn) { l.Hoops[0].Y = 199500 }),
		"hoop run along X": with(green(), func(l *api.Lawn) { l.Hoops[1].Y = 200000 - 4000 }),
		"narrow hoop":      with(green(), func(l *api.Lawn) { l.Hoops[0].Gap, l.Hoops[0].Wire = 2, 1 }),
		"no drag":          with(green(), func(l *api.Lawn) { l.Cells[0] = api.Cell{DX: api.MaxSlope, DY: -api.MaxSlope} }),
		"one hoop":         with(green(), func(l *api.Lawn) { l.Hoops = l.Hoops[:1] }),
	} {
		if e := lawn.Check(l); e != api.OK {
			t.Errorf("Check of %s: error %d", name, e)
		}
	}
}

// named is a lawn with a name for what is wrong with it.
type named struct {
	name string
	lawn api.Lawn
}

// changer adds a lawn that was changed.
type changer func(name string, change func(*api.Lawn))

// badLawns are lawns that are not valid in one thing.
func badLawns() []named {
	var bad []named
	of := func(from func() api.Lawn) changer {
		return func(name string, change func(*api.Lawn)) {
			bad = append(bad, named{name, with(from(), change)})
		}
	}
	add, addLargest := of(green), of(largest)
	for _, s := range []string{"", strings.Repeat("a", api.MaxName+1), "Green", "gr een", "gr-en", "gr\u00fcn", "a\n", "a`", "a{", "a/", "a:", "\xff"} {
		add("the name "+s, func(l *api.Lawn) { l.Name = s })
	}
	for _, n := range []int64{api.MinSide - 1, api.MaxPlace + 1, 0, -100000, math.MaxInt64, math.MinInt64} {
		// Neither the yard line nor the posts are in the way of these sides, if they are possible.
		of(small)("a width", func(l *api.Lawn) { l.Wide, l.Yard = n, 0 })
		of(small)("a length", func(l *api.Lawn) { l.Long, l.Yard = n, 0 })
	}
	for _, n := range []int64{25001, -1, math.MaxInt64, math.MinInt64} {
		add("a yard", func(l *api.Lawn) { l.Yard = n })
	}
	add("a yard of a long lawn", func(l *api.Lawn) { l.Wide, l.Yard = 400000, 50001 })
	add("a yard above a fourth", func(l *api.Lawn) { l.Wide, l.Yard = 100003, 25001 })
	badHoops(add)
	addLargest("a gap above the limit", func(l *api.Lawn) { l.Hoops[11].Gap = api.MaxGap + 2 })
	addLargest("a wire above the limit", func(l *api.Lawn) { l.Hoops[11].Wire = api.MaxWire + 1 })
	badSides(add)
	badPosts(add)
	badCells(add)
	return bad
}

// badHoops adds lawns with hoops that are not valid.
func badHoops(add changer) {
	for k := range 2 {
		for _, n := range []int64{-1, api.MaxPlace + 1, math.MaxInt64, math.MinInt64} {
			add("hoop X", func(l *api.Lawn) { l.Hoops[k].X = n })
			add("hoop Y", func(l *api.Lawn) { l.Hoops[k].Y = n })
		}
		for _, n := range []int64{0, 1, 3, 5999, -2, math.MaxInt64, math.MinInt64} {
			add("gap", func(l *api.Lawn) { l.Hoops[k].Gap = n })
		}
		for _, n := range []int64{0, -1, math.MaxInt64, math.MinInt64} {
			add("wire", func(l *api.Lawn) { l.Hoops[k].Wire = n })
		}
	}
}

// badSides adds lawns with posts that are not wholly on the lawn.
func badSides(add changer) {
	add("wire over the left side", func(l *api.Lawn) { l.Hoops[0].X = 3999 })
	add("wire over the right side", func(l *api.Lawn) { l.Hoops[0].X = 100000 - 3999 })
	add("wire over the lower side", func(l *api.Lawn) { l.Hoops[0].Y = 499 })
	add("wire over the upper side", func(l *api.Lawn) { l.Hoops[0].Y = 200000 - 499 })
	add("hoop along X over the left side", func(l *api.Lawn) { l.Hoops[1].X = 499 })
	add("hoop along X over the right side", func(l *api.Lawn) { l.Hoops[1].X = 100000 - 499 })
	add("hoop along X over the lower side", func(l *api.Lawn) { l.Hoops[1].Y = 3999 })
	add("hoop along X over the upper side", func(l *api.Lawn) { l.Hoops[1].Y = 200000 - 3999 })
	add("peg over the left side", func(l *api.Lawn) { l.Peg = disc(6, 7, 7) })
	add("peg over the lower side", func(l *api.Lawn) { l.Peg = disc(7, 6, 7) })
	add("peg over the right side", func(l *api.Lawn) { l.Peg = disc(100000-6, 7, 7) })
	add("peg over the upper side", func(l *api.Lawn) { l.Peg = disc(7, 200000-6, 7) })
	for _, n := range []int64{math.MaxInt64, math.MinInt64} {
		add("peg X off the lawn", func(l *api.Lawn) { l.Peg.At.X = n })
		add("peg Y off the lawn", func(l *api.Lawn) { l.Peg.At.Y = n })
	}
}

// badPosts adds lawns with a peg that has no possible radius, or with posts that meet.
func badPosts(add changer) {
	for _, n := range []int64{0, -1, api.MaxWire + 1, math.MaxInt64, math.MinInt64} {
		add("radius of the peg", func(l *api.Lawn) { l.Peg.R = n })
	}
	add("peg in a wire", func(l *api.Lawn) { l.Peg = disc(46500, 41699, 1200) })
	add("peg in the last wire", func(l *api.Lawn) { l.Peg = disc(30000+1699, 103500, 1200) })
	add("a hoop in a hoop", func(l *api.Lawn) { l.Hoops[1] = l.Hoops[0] })
	add("a hoop across a hoop", func(l *api.Lawn) { l.Hoops[1] = api.Hoop{X: 46500, Y: 43500, Gap: 6000, Wire: 500, Along: true} })
}

// badCells adds lawns whose cells are not possible.
func badCells(add changer) {
	add("no cells", func(l *api.Lawn) { l.Cells = nil })
	add("no cells of none", func(l *api.Lawn) { l.NX, l.NY, l.Cells = 0, 0, nil })
	add("a cell more", func(l *api.Lawn) { l.Cells = append(l.Cells, api.Cell{}) })
	add("a cell less", func(l *api.Lawn) { l.Cells = l.Cells[:1] })
	for _, n := range [][2]int{{-1, -2}, {17, 1}, {1, 17}, {0, 2}, {1 << 32, 1 << 32}, {math.MinInt64, 2}, {math.MaxInt64, math.MaxInt64}} {
		add("cells", func(l *api.Lawn) {
			l.NX, l.NY = n[0], n[1]
			if m := n[0] * n[1]; m >= 0 && m <= 256 {
				l.Cells = make([]api.Cell, m)
			}
		})
	}
	for k := range 2 {
		for _, n := range []int64{-1, api.MaxDrag + 1, math.MaxInt64, math.MinInt64} {
			add("drag", func(l *api.Lawn) { l.Cells[k].Drag = n })
		}
		for _, n := range []int64{api.MaxSlope + 1, -api.MaxSlope - 1, math.MaxInt64, math.MinInt64} {
			add("slope X", func(l *api.Lawn) { l.Cells[k].DX = n })
			add("slope Y", func(l *api.Lawn) { l.Cells[k].DY = n })
		}
	}
}

// P2.1: a lawn that is not valid is ErrArg, and has no text.
func TestCheckInvalid(t *testing.T) {
	for _, bad := range badLawns() {
		if e := lawn.Check(bad.lawn); e != api.ErrArg {
			t.Errorf("Check of a lawn with %s: error %d: %v", bad.name, e, bad.lawn)
		}
		if s, e := lawn.Text(bad.lawn); s != "" || e != api.ErrArg {
			t.Errorf("Text of a lawn with %s: %q, error %d", bad.name, s, e)
		}
	}
	if e := lawn.Check(api.Lawn{Hoops: make([]api.Hoop, 1)}); e != api.ErrArg {
		t.Errorf("Check of a lawn of nothing: error %d", e)
	}
}

// P2.1: ErrMany for no hoops, too many hoops, or too many cells, before ErrArg.
func TestCheckMany(t *testing.T) {
	for name, change := range map[string]func(*api.Lawn){
		"no hoops":    func(l *api.Lawn) { l.Hoops = nil },
		"empty hoops": func(l *api.Lawn) { l.Hoops = []api.Hoop{} },
		"13 hoops": func(l *api.Lawn) {
			l.Hoops = append(slices.Clone(largest().Hoops), api.Hoop{X: 1 << 21, Y: 1 << 21, Gap: 2, Wire: 1})
		},
		"257 cells":      func(l *api.Lawn) { l.Cells = make([]api.Cell, 257) },
		"no hoops again": func(l *api.Lawn) { l.Hoops, l.Cells = nil, nil },
	} {
		for _, l := range []api.Lawn{largest(), with(largest(), func(l *api.Lawn) { l.Name, l.Wide, l.Peg.R = "", 0, 0 })} {
			change(&l)
			if e := lawn.Check(l); e != api.ErrMany {
				t.Errorf("Check of %s: error %d", name, e)
			}
		}
	}
}
