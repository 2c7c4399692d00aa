package double_test

import (
	"math"
	"testing"

	"roquet/api"
	"roquet/double"
)

// P8.1: passes that are valid, at the limits, too.
func TestCheck(t *testing.T) {
	for _, p := range []api.Pass{
		good(),
		{Game: 0, Rank: 0, Asked: 0, Long: 1, A: at(0, 0), B: at(0, 0), R: 1},
		{Game: 1, Rank: 9, Asked: 1 << 30, Long: 4096, A: at(far, -far), B: at(-far, far), R: 16384},
		{Game: 1, Rank: 9, Asked: 1 << 30, Long: 4096, A: at(-far, far), B: at(far, -far), R: 16384},
	} {
		if e := double.Check(p); e != api.OK {
			t.Errorf("Check(%v): error %d", p, e)
		}
	}
}

// P8.1: passes that are not valid, for each of their numbers.
func TestCheckErrors(t *testing.T) {
	for _, p := range append(badPasses(), api.Pass{}) {
		if e := double.Check(p); e != api.ErrArg {
			t.Errorf("Check(%v): error %d, want ErrArg", p, e)
		}
	}
}

// P8.1: lists of passes, as long as they may be, and longer.
func TestCheckAll(t *testing.T) {
	for _, n := range []int{0, 1, 2, api.MaxPasses} {
		if e := double.CheckAll(repeat(n, good())); e != api.OK {
			t.Errorf("CheckAll of %d passes: error %d", n, e)
		}
	}
	for _, n := range []int{tooMany, 100000} {
		for _, p := range []api.Pass{good(), {}} {
			if e := double.CheckAll(repeat(n, p)); e != api.ErrMany {
				t.Errorf("CheckAll of %d passes %v: error %d, want ErrMany", n, p, e)
			}
		}
	}
	for _, bad := range badPasses() {
		for _, n := range []int{0, 1, api.MaxPasses - 1} {
			l := repeat(api.MaxPasses, good())
			l[n] = bad
			if e := double.CheckAll(l); e != api.ErrArg {
				t.Errorf("CheckAll with %v at %d: error %d, want ErrArg", bad, n, e)
			}
		}
	}
}

// P8.7: all eight colours, in any order, and each pair of balls that has the same one.
func TestCheckColours(t *testing.T) {
	all := [8]int{3, 0, 7, 5, 1, 6, 4, 2}
	if e := double.CheckColours(halves(all)); e != api.OK {
		t.Errorf("CheckColours(%v): error %d", all, e)
	}
	if e := double.CheckColours([4]int{0, 1, 2, 3}, [4]int{4, 5, 6, 7}); e != api.OK {
		t.Errorf("CheckColours in order: error %d", e)
	}
	for i := range all {
		for k := range i {
			same := all
			same[i] = same[k]
			if e := double.CheckColours(halves(same)); e != api.ErrHave {
				t.Errorf("CheckColours(%v): error %d, want ErrHave", same, e)
			}
		}
	}
}

// P8.7: colours that there are not, also beside others that are the same.
func TestCheckColoursErrors(t *testing.T) {
	for _, bad := range []int{-1, 8, 9, math.MinInt, math.MaxInt} {
		for _, all := range [][8]int{{3, 0, 7, 5, 1, 6, 4, 2}, {}, {bad, bad, 1, 1, bad, 1, 1, bad}} {
			for i := range all {
				wrong := all
				wrong[i] = bad
				if e := double.CheckColours(halves(wrong)); e != api.ErrArg {
					t.Errorf("CheckColours(%v): error %d, want ErrArg", wrong, e)
				}
			}
		}
	}
	if e := double.CheckColours([4]int{}, [4]int{}); e != api.ErrHave {
		t.Errorf("CheckColours of one colour: error %d, want ErrHave", e)
	}
}

// halves returns the colours of both games.
func halves(all [8]int) ([4]int, [4]int) {
	return [4]int(all[:4]), [4]int(all[4:])
}
