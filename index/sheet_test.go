package index_test

import (
	"math"
	"slices"
	"strings"
	"testing"

	"roquet/api"
	"roquet/index"
)

// badNames are no names.
func badNames() []string {
	return []string{"", "Ann", "ann ", " ann", "a-b", "a_b", "ann\n", "é", "a\x00", "\xff", "`", "{", "/", ":", "@", strings.Repeat("a", api.MaxName+1), strings.Repeat("a", 100000)}
}

// badSheets are sheets each of which is not valid for one thing.
func badSheets() []api.Sheet {
	l := []api.Sheet{with(good(), func(s *api.Sheet) { s.Loser = s.Winner })}
	add := func(change func(s *api.Sheet)) { l = append(l, with(good(), change)) }
	for _, n := range []int64{-1, api.MaxNumbers + 1, math.MinInt64, math.MaxInt64} {
		add(func(s *api.Sheet) { s.Number = n })
		add(func(s *api.Sheet) { s.At = n })
	}
	for _, n := range []int{-1, api.MaxVersions + 1, math.MinInt, math.MaxInt} {
		add(func(s *api.Sheet) { s.Version = n })
	}
	for _, name := range badNames() {
		add(func(s *api.Sheet) { s.Winner = name })
		add(func(s *api.Sheet) { s.Loser = name })
	}
	for _, points := range [][2]int{{-1, 0}, {0, -1}, {-1, -1}, {5, 6}, {0, 1}, {25, 26}, {27, 0}, {27, 27}, {26, 27}, {math.MaxInt, 0}, {0, math.MinInt}, {5, math.MaxInt}, {math.MinInt, math.MinInt}} {
		add(func(s *api.Sheet) { s.Points = points })
	}
	return l
}

// P10.1: sheets that are valid, up to the limits.
func TestCheckSheet(t *testing.T) {
	long := strings.Repeat("z", api.MaxName)
	for _, s := range []api.Sheet{
		good(), void(good(), 7), bisques(good()),
		{Winner: "a", Loser: "z"},
		{Winner: "0", Loser: "9"},
		{Winner: "ann", Loser: "anna"},
		{Number: api.MaxNumbers, Version: api.MaxVersions, At: api.MaxNumbers, Winner: long, Loser: long[1:], Points: [2]int{26, 26}},
		sheet(0, 0, "a", "b", 26, 0), sheet(0, 0, "a", "b", 1, 0), sheet(0, 0, "a", "b", 1, 1), sheet(0, 0, "a", "b", 26, 25),
	} {
		if e := index.CheckSheet(s); e != api.OK {
			t.Errorf("CheckSheet(%v): error %d", s, e)
		}
	}
}

// P10.1: sheets that are not valid.
func TestCheckSheetErrors(t *testing.T) {
	for _, s := range append(badSheets(), api.Sheet{}) {
		if e := index.CheckSheet(s); e != api.ErrArg {
			t.Errorf("CheckSheet(%v): error %d, want ErrArg", s, e)
		}
	}
}

// unlike are sheets of the same number and version as the good one, each with another field that is not the same.
func unlike() []api.Sheet {
	return []api.Sheet{
		with(good(), func(s *api.Sheet) { s.At++ }),
		with(good(), func(s *api.Sheet) { s.Void = true }),
		with(good(), func(s *api.Sheet) { s.Winner = "cat" }),
		with(good(), func(s *api.Sheet) { s.Loser = "cat" }),
		with(good(), func(s *api.Sheet) { s.Winner, s.Loser = s.Loser, s.Winner }),
		with(good(), func(s *api.Sheet) { s.Level = false }),
		with(good(), func(s *api.Sheet) { s.Points[0]-- }),
		with(good(), func(s *api.Sheet) { s.Points[1]++ }),
	}
}

// checkLedger fails if the error of a ledger is not this one.
func checkLedger(t *testing.T, name string, l []api.Sheet, want api.Errno) {
	t.Helper()
	if e := index.CheckLedger(l); e != want {
		t.Errorf("CheckLedger, %s: error %d, want %d", name, e, want)
	}
}

// P10.1: ledgers that are sound, as long as they may be.
func TestCheckLedger(t *testing.T) {
	checkLedger(t, "nil", nil, api.OK)
	checkLedger(t, "empty", []api.Sheet{}, api.OK)
	checkLedger(t, "the ring", ring(), api.OK)
	checkLedger(t, "full", sheets(api.MaxSheets), api.OK)
	checkLedger(t, "the same sheet", slices.Repeat([]api.Sheet{good()}, api.MaxSheets), api.OK)
	for _, s := range unlike() {
		checkLedger(t, "other versions", []api.Sheet{good(), version(s, 1), version(s, 2), good(), version(s, 1)}, api.OK)
		checkLedger(t, "other numbers", []api.Sheet{good(), with(s, func(s *api.Sheet) { s.Number = 0 })}, api.OK)
	}
}

// P10.1: ledgers that are none, in the order of the errors.
func TestCheckLedgerErrors(t *testing.T) {
	bad, other := badSheets()[0], unlike()[0]
	for _, n := range []int{api.MaxSheets + 1, 100000} {
		checkLedger(t, "too long", slices.Repeat([]api.Sheet{good()}, n), api.ErrMany)
		checkLedger(t, "too long, and not valid", slices.Repeat([]api.Sheet{bad}, n), api.ErrMany)
	}
	for _, s := range badSheets() {
		checkLedger(t, "not valid", []api.Sheet{s}, api.ErrArg)
		checkLedger(t, "the last one is not valid", append(sheets(api.MaxSheets-1), s), api.ErrArg)
	}
	checkLedger(t, "not valid, and not sound before", []api.Sheet{good(), other, bad}, api.ErrArg)
	for _, s := range unlike() {
		checkLedger(t, "unlike", []api.Sheet{good(), s}, api.ErrHave)
		checkLedger(t, "unlike, the other way round", []api.Sheet{s, good()}, api.ErrHave)
		checkLedger(t, "unlike, apart", append(append([]api.Sheet{s}, sheets(1)...), good()), api.ErrHave)
		checkLedger(t, "unlike, behind an equal one", []api.Sheet{good(), good(), s}, api.ErrHave)
	}
	checkLedger(t, "full, and not sound", append(sheets(api.MaxSheets-1), other), api.ErrHave)
}

// checkMerge fails if two ledgers are not merged like this.
func checkMerge(t *testing.T, a, b []api.Sheet, want ...api.Sheet) {
	t.Helper()
	if l, e := index.Merge(a, b); !slices.Equal(l, want) || e != api.OK {
		t.Errorf("Merge(%s, %s): %s, error %d, want %s", brief(a), brief(b), brief(l), e, brief(want))
	}
}

// checkMergeError fails if two ledgers are merged, or for another error.
func checkMergeError(t *testing.T, name string, a, b []api.Sheet, want api.Errno) {
	t.Helper()
	if l, e := index.Merge(a, b); len(l) > 0 || e != want {
		t.Errorf("Merge, %s: %d sheets, error %d, want %d", name, len(l), e, want)
	}
}

// P10.2: what is there already is left out, also within a ledger; the order is kept.
func TestMerge(t *testing.T) {
	l := ring()
	one, two, three := l[0], l[1], l[2]
	old := version(one, 0)
	newer := version(one, 1)
	checkMerge(t, nil, nil)
	checkMerge(t, l, nil, l...)
	checkMerge(t, nil, l, l...)
	checkMerge(t, l, l, l...)
	checkMerge(t, []api.Sheet{three, one}, []api.Sheet{two, one}, three, one, two)
	checkMerge(t, []api.Sheet{two, one, two, two}, []api.Sheet{three, one, three}, two, one, three)
	checkMerge(t, []api.Sheet{two, two}, nil, two)
	checkMerge(t, nil, []api.Sheet{two, two}, two)
	checkMerge(t, []api.Sheet{newer}, []api.Sheet{old, void(one, 2)}, newer, old, void(one, 2))
	all := sheets(api.MaxSheets)
	checkMerge(t, all, all, all...)
	checkMerge(t, all[:150], all[50:], all...)
	checkMerge(t, all[100:], all[:100], append(slices.Clone(all[100:]), all[:100]...)...)
	checkMerge(t, slices.Repeat(l, 66), slices.Repeat(all[9:10], api.MaxSheets), append(slices.Clone(l), all[9])...)
}

// P10.2: what cannot be merged, in the order of the errors.
func TestMergeErrors(t *testing.T) {
	bad, other, all := badSheets()[0], unlike()[0], sheets(api.MaxSheets)
	unsound := []api.Sheet{good(), other}
	more := with(good(), func(s *api.Sheet) { s.Number = api.MaxSheets })
	many := append(slices.Clone(all), more)
	for _, ok := range [][]api.Sheet{nil, all, ring()} {
		checkMergeError(t, "the first one too long", many, ok, api.ErrMany)
		checkMergeError(t, "the second one too long", ok, many, api.ErrMany)
		checkMergeError(t, "the first one not valid", []api.Sheet{bad}, ok, api.ErrArg)
		checkMergeError(t, "the second one not valid", ok, []api.Sheet{bad}, api.ErrArg)
		checkMergeError(t, "the first one not sound", unsound, ok, api.ErrHave)
		checkMergeError(t, "the second one not sound", ok, unsound, api.ErrHave)
	}
	checkMergeError(t, "the first one first: too long", many, []api.Sheet{bad}, api.ErrMany)
	checkMergeError(t, "the first one first: not valid", []api.Sheet{bad}, many, api.ErrArg)
	checkMergeError(t, "the first one first: not sound", unsound, []api.Sheet{bad}, api.ErrHave)
	checkMergeError(t, "the same too often", slices.Repeat(ring(), 67), nil, api.ErrMany)
	checkMergeError(t, "one too many together", all, []api.Sheet{more}, api.ErrMany)
	checkMergeError(t, "too many together, and not sound", all, []api.Sheet{other}, api.ErrMany)
	checkMergeError(t, "not sound together", all[:199], []api.Sheet{other}, api.ErrHave)
	for _, s := range unlike() {
		checkMergeError(t, "unlike", []api.Sheet{good()}, []api.Sheet{s}, api.ErrHave)
		checkMergeError(t, "unlike, behind others", ring(), []api.Sheet{more, s}, api.ErrHave)
	}
}

// checkBooks fails if the books of a ledger are not these.
func checkBooks(t *testing.T, l []api.Sheet, want ...api.Sheet) {
	t.Helper()
	if b, e := index.Books(l); !slices.Equal(b, want) || e != api.OK {
		t.Errorf("Books(%s): %s, error %d, want %s", brief(l), brief(b), e, brief(want))
	}
}

// P10.2: the greatest versions, once, without those that are void, in order.
func TestBooks(t *testing.T) {
	l := ring()
	one, two, three := l[0], l[1], l[2]
	checkBooks(t, nil)
	checkBooks(t, l, l...)
	checkBooks(t, []api.Sheet{three, two, one, three}, l...)
	later := with(version(one, 2), func(s *api.Sheet) { s.At = 9 })
	checkBooks(t, []api.Sheet{version(one, 1), later, one, two, three}, two, three, later)
	checkBooks(t, []api.Sheet{one, void(one, 1), two}, two)
	checkBooks(t, []api.Sheet{void(one, 1), one, two, void(one, 1)}, two)
	checkBooks(t, []api.Sheet{void(one, 1), two, version(one, 2)}, version(one, 2), two)
	checkBooks(t, []api.Sheet{void(one, 0)})
	// Of the same time the lesser number comes first, whatever the version is.
	same := func(number int64, n int) api.Sheet {
		return with(version(good(), n), func(s *api.Sheet) { s.Number = number })
	}
	checkBooks(t, []api.Sheet{same(7, 0), same(3, 9), same(5, 4)}, same(3, 9), same(5, 4), same(7, 0))
	first := with(same(9, 1), func(s *api.Sheet) { s.At = 4 })
	checkBooks(t, []api.Sheet{same(7, 0), first, same(0, 0)}, first, same(0, 0), same(7, 0))
	top := with(same(api.MaxNumbers, api.MaxVersions), func(s *api.Sheet) { s.At = api.MaxNumbers })
	checkBooks(t, []api.Sheet{top, version(top, api.MaxVersions-1), one}, one, top)
	checkBooks(t, sheets(api.MaxSheets), sheets(api.MaxSheets)...)
}

// P10.2: the books are those of the second version.
func TestBooksOfAll(t *testing.T) {
	r := dice(102)
	void := 0
	for range 1500 {
		l := anyLedger(r, api.MaxSheets)
		checkBooks(t, l, modelBooks(l)...)
		for _, s := range l {
			if s.Void {
				void++
			}
		}
	}
	if void < 1000 {
		t.Errorf("only %d sheets were void", void)
	}
}
