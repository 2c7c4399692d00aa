package event_test

import (
	"math"
	"slices"
	"testing"

	"roquet/api"
	"roquet/event"
)

// P11.1: the seed order of all sizes.
func TestOrder(t *testing.T) {
	for size, want := range map[int][]int{
		1:  {0},
		2:  {0, 1},
		4:  {0, 3, 1, 2},
		8:  {0, 7, 3, 4, 1, 6, 2, 5},
		16: {0, 15, 7, 8, 3, 12, 4, 11, 1, 14, 6, 9, 2, 13, 5, 10},
	} {
		if l := mustOrder(t, size); !slices.Equal(l, want) {
			t.Errorf("Order(%d): %v, want %v", size, l, want)
		}
	}
	for size := 1; size <= api.MaxField; size *= 2 {
		if l := mustOrder(t, size); !slices.Equal(l, modelOrder(size)) {
			t.Errorf("Order(%d): %v, want %v", size, l, modelOrder(size))
		}
	}
}

// P11.1: sizes that are no power of two, or too great.
func TestOrderErrors(t *testing.T) {
	for size := -200; size <= 1100; size++ {
		if slices.Contains([]int{1, 2, 4, 8, 16, 32, 64}, size) {
			continue
		}
		if l, e := event.Order(size); len(l) > 0 || e != api.ErrRange {
			t.Errorf("Order(%d): %v, error %d, want ErrRange", size, l, e)
		}
	}
	for _, size := range []int{math.MinInt, math.MaxInt, 1 << 62, 1 << 32} {
		if l, e := event.Order(size); len(l) > 0 || e != api.ErrRange {
			t.Errorf("Order(%d): %v, error %d, want ErrRange", size, l, e)
		}
	}
}

// P11.1: draws of a few players.
func TestDraw(t *testing.T) {
	for _, x := range []struct {
		n, seeds int
		lots     []int
		want     []int
	}{
		{2, 2, nil, []int{0, 1}},
		{2, 2, []int{}, []int{0, 1}},
		{2, 0, []int{0, 0}, []int{0, 1}},
		{2, 0, []int{1, 0}, []int{1, 0}},
		{2, 0, []int{3, 7}, []int{1, 0}},
		{2, 1, []int{9}, []int{0, 1}},
		{3, 3, nil, []int{0, bye, 1, 2}},
		{3, 0, []int{2, 1, 0}, []int{2, bye, 1, 0}},
		{3, 0, []int{5, 4, 3}, []int{2, bye, 0, 1}},
		{4, 4, nil, []int{0, 3, 1, 2}},
		{4, 1, []int{1, 1, 1}, []int{0, 1, 2, 3}},
		{4, 0, []int{math.MaxInt, 0, 0, 0}, []int{3, 2, 0, 1}},
		{5, 2, []int{1, 0, 0}, []int{0, bye, 2, 4, 1, bye, 3, bye}},
		{6, 4, []int{1, 1}, []int{0, bye, 3, 5, 1, bye, 2, 4}},
		{8, 8, nil, []int{0, 7, 3, 4, 1, 6, 2, 5}},
		{9, 9, nil, []int{0, bye, 7, 8, 3, bye, 4, bye, 1, bye, 6, bye, 2, bye, 5, bye}},
	} {
		if l := mustDraw(t, x.n, x.seeds, x.lots); !slices.Equal(l, x.want) {
			t.Errorf("Draw(%d, %d, %v): %v, want %v", x.n, x.seeds, x.lots, l, x.want)
		}
	}
}

// P11.1: draws of all sizes against the second version.
func TestDrawModel(t *testing.T) {
	r := dice(1101)
	for n := 2; n <= api.MaxField; n++ {
		for seeds := range n + 1 {
			lots := anyLots(r, n-seeds)
			if l, want := mustDraw(t, n, seeds, lots), modelDraw(n, seeds, lots); !slices.Equal(l, want) {
				t.Errorf("Draw(%d, %d, %v): %v, want %v", n, seeds, lots, l, want)
			}
		}
	}
}

// P11.1: what is no draw, and which error comes first.
func TestDrawErrors(t *testing.T) {
	many := make([]int, 100)
	for _, x := range []struct {
		n, seeds int
		lots     []int
		want     api.Errno
	}{
		{1, 0, many[:1], api.ErrRange},
		{0, 0, nil, api.ErrRange},
		{-1, -1, nil, api.ErrRange},
		{math.MinInt, 0, nil, api.ErrRange},
		{math.MaxInt, 0, nil, api.ErrRange},
		{math.MaxInt, math.MaxInt, nil, api.ErrRange},
		{api.MaxField + 1, 0, many[:api.MaxField+1], api.ErrRange},
		{api.MaxField + 1, api.MaxField, many[:1], api.ErrRange},
		{4, -1, many[:5], api.ErrRange},
		{4, 5, nil, api.ErrRange},
		{4, math.MinInt, nil, api.ErrRange},
		{4, math.MaxInt, nil, api.ErrRange},
		{4, 5, []int{-1}, api.ErrRange},
		{1, 0, []int{-1}, api.ErrRange},
		{4, 2, nil, api.ErrEqual},
		{4, 2, many[:1], api.ErrEqual},
		{4, 2, many[:3], api.ErrEqual},
		{4, 4, many[:1], api.ErrEqual},
		{4, 0, many, api.ErrEqual},
		{4, 2, []int{-1}, api.ErrEqual},
		{4, 2, []int{-1, -1, -1}, api.ErrEqual},
		{4, 2, []int{-1, 0}, api.ErrArg},
		{4, 2, []int{0, -1}, api.ErrArg},
		{4, 0, []int{0, 5, math.MinInt, 1}, api.ErrArg},
	} {
		if l, e := event.Draw(x.n, x.seeds, x.lots); len(l) > 0 || e != x.want {
			t.Errorf("Draw(%d, %d, %v): %v, error %d, want %d", x.n, x.seeds, brief(x.lots), l, e, x.want)
		}
	}
}

// badSlots are slots that are no draw, with the error of each.
func badSlots() []struct {
	slots []int
	want  api.Errno
} {
	field := numbers(api.MaxField)
	changed := func(i, p int) []int {
		l := slices.Clone(field)
		l[i] = p
		return l
	}
	return []struct {
		slots []int
		want  api.Errno
	}{
		{numbers(api.MaxField + 1), api.ErrMany},
		{numbers(2 * api.MaxField), api.ErrMany},
		{slices.Repeat([]int{bye}, api.MaxField+1), api.ErrMany},
		{slices.Repeat([]int{-7}, 100000), api.ErrMany},
		{nil, api.ErrArg},
		{[]int{}, api.ErrArg},
		{[]int{0}, api.ErrArg},
		{[]int{bye}, api.ErrArg},
		{numbers(3), api.ErrArg},
		{numbers(6), api.ErrArg},
		{numbers(48), api.ErrArg},
		{numbers(63), api.ErrArg},
		{[]int{0, open}, api.ErrArg},
		{[]int{open, bye}, api.ErrArg},
		{[]int{0, 1001}, api.ErrArg},
		{[]int{1001, bye}, api.ErrArg},
		{[]int{math.MinInt, 0}, api.ErrArg},
		{[]int{0, math.MaxInt}, api.ErrArg},
		{[]int{0, 0}, api.ErrArg},
		{[]int{0, 1, 2, 0}, api.ErrArg},
		{[]int{1000, bye, bye, 1000}, api.ErrArg},
		{changed(63, 0), api.ErrArg},
		{changed(63, -2), api.ErrArg},
		{changed(0, 1001), api.ErrArg},
		{[]int{bye, bye}, api.ErrArg},
		{[]int{0, 1, bye, bye}, api.ErrArg},
		{[]int{bye, bye, 0, 1}, api.ErrArg},
		{[]int{0, 1, 2, 3, 4, 5, bye, bye}, api.ErrArg},
		{[]int{0, bye, bye, bye, 4, 5, 6, 7}, api.ErrArg},
	}
}

// P11.2: draws that are valid, up to the limits.
func TestCheckDraw(t *testing.T) {
	for _, slots := range [][]int{
		{0, 1}, {1, 0}, {1000, 0}, {0, bye}, {bye, 0}, {bye, 1000}, {999, 1000},
		{0, bye, bye, 1}, {bye, 0, 1, bye}, {bye, 0, bye, 1}, {7, 3, 1, 5},
		{0, 1, 2, 3, 4, 5, 6, 7},
		numbers(16), numbers(32), numbers(api.MaxField),
		{5, bye, 6, bye, 7, bye, 8, bye},
	} {
		if e := event.CheckDraw(slots); e != api.OK {
			t.Errorf("CheckDraw(%v): error %d", slots, e)
		}
	}
	r := dice(1102)
	for range 500 {
		if slots := anySlots(r, api.MaxField); event.CheckDraw(slots) != api.OK {
			t.Errorf("CheckDraw(%v): error %d", slots, event.CheckDraw(slots))
		}
	}
	for n := 2; n <= api.MaxField; n++ {
		if slots := mustDraw(t, n, n, nil); event.CheckDraw(slots) != api.OK {
			t.Errorf("CheckDraw(%v): error %d", slots, event.CheckDraw(slots))
		}
	}
}

// P11.2: slots that are no draw.
func TestCheckDrawErrors(t *testing.T) {
	for _, x := range badSlots() {
		if e := event.CheckDraw(x.slots); e != x.want {
			t.Errorf("CheckDraw(%s): error %d, want %d", brief(x.slots), e, x.want)
		}
	}
}

// P11.5: in which round two meet.
func TestMeet(t *testing.T) {
	example := []int{0, bye, 2, 4, 1, bye, 3, bye}
	for _, x := range []struct {
		slots []int
		a, b  int
		want  int
	}{
		{example, 0, 1, 2}, {example, 2, 4, 0}, {example, 0, 2, 1}, {example, 4, 0, 1}, {example, 1, 3, 1}, {example, 3, 4, 2},
		{[]int{1000, 5}, 5, 1000, 0},
		{[]int{7, 3, 1, 5}, 3, 1, 1},
		{numbers(64), 0, 63, 5}, {numbers(64), 31, 32, 5}, {numbers(64), 30, 31, 0}, {numbers(64), 15, 16, 4}, {numbers(64), 33, 34, 1},
	} {
		for _, two := range [][2]int{{x.a, x.b}, {x.b, x.a}} {
			if n, e := event.Meet(x.slots, two[0], two[1]); n != x.want || e != api.OK {
				t.Errorf("Meet(%v, %v): %d, error %d, want %d", x.slots, two, n, e, x.want)
			}
		}
	}
}

// P11.5: all two players of draws against the second version.
func TestMeetModel(t *testing.T) {
	r := dice(1105)
	for range 40 {
		slots := anySlots(r, 32)
		for _, a := range slots {
			for _, b := range slots {
				if a == b || a == bye || b == bye {
					continue
				}
				if n, e := event.Meet(slots, a, b); n != modelMeet(slots, a, b) || e != api.OK {
					t.Errorf("Meet(%v, %d, %d): %d, error %d, want %d", slots, a, b, n, e, modelMeet(slots, a, b))
				}
			}
		}
	}
}

// P11.5: two who do not meet.
func TestMeetErrors(t *testing.T) {
	slots := []int{0, bye, 2, 4, 1, bye, 3, bye}
	for _, two := range [][2]int{{0, 0}, {4, 4}, {5, 5}, {0, 5}, {5, 0}, {5, 6}, {0, bye}, {bye, 0}, {bye, bye}, {0, open}, {math.MinInt, 1}, {1, math.MaxInt}, {1001, 1}} {
		if n, e := event.Meet(slots, two[0], two[1]); n != 0 || e != api.ErrNone {
			t.Errorf("Meet(%v, %v): %d, error %d, want ErrNone", slots, two, n, e)
		}
	}
	for _, x := range badSlots() {
		for _, two := range [][2]int{{0, 1}, {0, 0}, {bye, 2000}} {
			if n, e := event.Meet(x.slots, two[0], two[1]); n != 0 || e != x.want {
				t.Errorf("Meet(%s, %v): %d, error %d, want %d", brief(x.slots), two, n, e, x.want)
			}
		}
	}
}

// P11.8: the new one stands where the other one was.
func TestSubstitute(t *testing.T) {
	slots := []int{0, bye, 2, 4, 1, bye, 3, bye}
	for _, x := range []struct {
		player, by int
		want       []int
	}{
		{0, 5, []int{5, bye, 2, 4, 1, bye, 3, bye}},
		{3, 1000, []int{0, bye, 2, 4, 1, bye, 1000, bye}},
		{4, 7, []int{0, bye, 2, 7, 1, bye, 3, bye}},
	} {
		if l := mustSubstitute(t, slots, x.player, x.by); !slices.Equal(l, x.want) {
			t.Errorf("Substitute(%v, %d, %d): %v, want %v", slots, x.player, x.by, l, x.want)
		}
	}
	if l := mustSubstitute(t, []int{1000, bye}, 1000, 0); !slices.Equal(l, []int{0, bye}) {
		t.Errorf("Substitute of 1000 by 0: %v", l)
	}
	r := dice(1108)
	for range 300 {
		slots := anySlots(r, api.MaxField)
		i := r.Intn(len(slots))
		by := r.Intn(1001)
		if slots[i] == bye || slices.Contains(slots, by) {
			continue
		}
		want := slices.Clone(slots)
		want[i] = by
		l := mustSubstitute(t, slots, slots[i], by)
		if !slices.Equal(l, want) {
			t.Errorf("Substitute(%v, %d, %d): %v, want %v", slots, slots[i], by, l, want)
		}
		if back := mustSubstitute(t, l, by, slots[i]); !slices.Equal(back, slots) {
			t.Errorf("Substitute(%v, %d, %d): %v, want %v", l, by, slots[i], back, slots)
		}
	}
}

// P11.8: substitutes that cannot be put in, and which error comes first.
func TestSubstituteErrors(t *testing.T) {
	slots := []int{0, bye, 2, 4, 1, bye, 3, bye}
	for _, x := range []struct {
		player, by int
		want       api.Errno
	}{
		{5, 6, api.ErrNone},
		{bye, 6, api.ErrNone},
		{open, 6, api.ErrNone},
		{math.MinInt, 6, api.ErrNone},
		{math.MaxInt, 6, api.ErrNone},
		{5, -1, api.ErrNone},
		{5, 1001, api.ErrNone},
		{5, 5, api.ErrNone},
		{5, 0, api.ErrNone},
		{bye, bye, api.ErrNone},
		{0, bye, api.ErrArg},
		{0, open, api.ErrArg},
		{0, 1001, api.ErrArg},
		{0, math.MinInt, api.ErrArg},
		{0, math.MaxInt, api.ErrArg},
		{0, 4, api.ErrHave},
		{4, 0, api.ErrHave},
		{4, 4, api.ErrHave},
		{0, 0, api.ErrHave},
	} {
		if l, e := event.Substitute(slots, x.player, x.by); len(l) > 0 || e != x.want {
			t.Errorf("Substitute(%v, %d, %d): %v, error %d, want %d", slots, x.player, x.by, l, e, x.want)
		}
	}
	for _, x := range badSlots() {
		for _, two := range [][2]int{{0, 900}, {0, 1}, {900, 901}, {0, -1}} {
			if l, e := event.Substitute(x.slots, two[0], two[1]); len(l) > 0 || e != x.want {
				t.Errorf("Substitute(%s, %v): %v, error %d, want %d", brief(x.slots), two, l, e, x.want)
			}
		}
	}
}
