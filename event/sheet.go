package event

import (
	"cmp"

	"roquet/api"
)

// checkSheets reports whether sheets are valid, and not too many.
func checkSheets(l []api.Score) api.Errno {
	if len(l) > api.MaxScores {
		return api.ErrMany
	}
	for _, s := range l {
		if s.Version < 0 || !between(s.Winner, 0, 1) || !between(s.Plus, 1, api.MaxPlus) {
			return api.ErrArg
		}
	}
	return api.OK
}

// Counts returns the sheet that counts for a match.
func Counts(l []api.Score, match int) (api.Score, api.Errno) {
	if e := checkSheets(l); e != api.OK {
		return api.Score{}, e
	}
	s, ok := counting(l)[match]
	if !ok {
		return api.Score{}, api.ErrNone
	}
	return s, api.OK
}

// counting returns the sheets that count, by their matches.
func counting(l []api.Score) map[int]api.Score {
	count := map[int]api.Score{}
	for _, s := range l {
		if known, ok := count[s.Match]; !ok || overrides(s, known) {
			count[s.Match] = s
		}
	}
	return count
}

// overrides reports whether a sheet counts instead of another one for its match.
func overrides(s, known api.Score) bool {
	return cmp.Or(cmp.Compare(s.Version, known.Version), cmp.Compare(s.Winner, known.Winner), cmp.Compare(s.Plus, known.Plus)) > 0
}
