package double

import "roquet/api"

// span is the seconds that a pass takes: those from start on that come before end.
type span struct {
	start, end int64
}

// spanOf returns the seconds that a pass takes with this start.
func spanOf(p api.Pass, start int64) span {
	return span{start: start, end: start + p.Long}
}

// shares reports whether two spans have a second in common.
func (s span) shares(u span) bool {
	return s.start < u.end && u.start < s.end
}

// Ready returns when passes are ready.
func Ready(l []api.Pass, starts []int64) ([]int64, api.Errno) {
	if e := checkNumbers(l, starts); e != api.OK {
		return nil, e
	}
	return ready(l, starts), api.OK
}

// CheckStarts reports whether starts are right.
func CheckStarts(l []api.Pass, starts []int64) (int, api.Errno) {
	if e := checkNumbers(l, starts); e != api.OK {
		return 0, e
	}
	for i, r := range ready(l, starts) {
		if starts[i] < r {
			return i, api.ErrLate
		}
	}
	pairs := meetings(l)
	for i, p := range l {
		for k, q := range l[:i] {
			if pairs[[2]int{i, k}] && spanOf(p, starts[i]).shares(spanOf(q, starts[k])) {
				return i, api.ErrRule
			}
		}
	}
	return len(l), api.OK
}

// checkNumbers returns the error of passes, and of numbers as their starts.
func checkNumbers(l []api.Pass, starts []int64) api.Errno {
	if e := CheckAll(l); e != api.OK {
		return e
	}
	if len(starts) != len(l) {
		return api.ErrEqual
	}
	for _, s := range starts {
		if !between(s, 0, 2*api.MaxClock) {
			return api.ErrRange
		}
	}
	return api.OK
}

// ready returns when passes with these starts are ready; both have to be valid.
func ready(l []api.Pass, starts []int64) []int64 {
	var ends [2]int64 // of the last pass so far of each game
	times := make([]int64, len(l))
	for i, p := range l {
		times[i] = max(p.Asked, ends[p.Game])
		ends[p.Game] = spanOf(p, starts[i]).end
	}
	return times
}
