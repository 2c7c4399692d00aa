package index

import (
	"slices"

	"roquet/api"
)

// edition is what no two sheets of a sound ledger have in common, unless they are equal.
type edition struct {
	number  int64
	version int
}

// CheckSheet reports whether a sheet is valid.
func CheckSheet(s api.Sheet) api.Errno {
	if !between(s.Number, 0, api.MaxNumbers) || !between(s.Version, 0, api.MaxVersions) || !between(s.At, 0, api.MaxNumbers) ||
		!isName(s.Winner) || !isName(s.Loser) || s.Winner == s.Loser ||
		!between(s.Points[0], 0, api.MaxScore) || !between(s.Points[1], 0, s.Points[0]) {
		return api.ErrArg
	}
	return api.OK
}

// CheckLedger reports whether a ledger is one, and sound.
func CheckLedger(l []api.Sheet) api.Errno {
	if len(l) > api.MaxSheets {
		return api.ErrMany
	}
	for _, s := range l {
		if e := CheckSheet(s); e != api.OK {
			return e
		}
	}
	if !isSound(l) {
		return api.ErrHave
	}
	return api.OK
}

// isSound reports whether sheets of the same edition are equal.
func isSound(l []api.Sheet) bool {
	first := map[edition]api.Sheet{}
	for _, s := range l {
		k := edition{s.Number, s.Version}
		if other, ok := first[k]; ok && other != s {
			return false
		}
		first[k] = s
	}
	return true
}

// Merge merges two ledgers.
func Merge(a, b []api.Sheet) ([]api.Sheet, api.Errno) {
	if e := firstError(CheckLedger(a), CheckLedger(b)); e != api.OK {
		return nil, e
	}
	merged := distinct(slices.Concat(a, b))
	if e := CheckLedger(merged); e != api.OK {
		return nil, e
	}
	return merged, api.OK
}

// distinct returns sheets without those that are equal to an earlier one.
func distinct(l []api.Sheet) (kept []api.Sheet) {
	for _, s := range l {
		if !slices.Contains(kept, s) {
			kept = append(kept, s)
		}
	}
	return kept
}

// Books returns the books of a ledger.
func Books(l []api.Sheet) ([]api.Sheet, api.Errno) {
	if e := CheckLedger(l); e != api.OK {
		return nil, e
	}
	return booksOf(l), api.OK
}

// booksOf returns the books of a sound ledger.
func booksOf(l []api.Sheet) (books []api.Sheet) {
	latest := map[int64]api.Sheet{}
	for _, s := range l {
		if known, ok := latest[s.Number]; !ok || known.Version < s.Version {
			latest[s.Number] = s
		}
	}
	for _, s := range latest {
		if !s.Void {
			books = append(books, s)
		}
	}
	putInOrder(books, endedBefore)
	return books
}

// endedBefore reports whether a game comes before another one in the books.
func endedBefore(a, b api.Sheet) bool {
	return a.At < b.At || a.At == b.At && a.Number < b.Number
}
