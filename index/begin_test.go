package index_test

import (
	"math"
	"testing"

	"roquet/api"
	"roquet/game"
	"roquet/index"
)

// checkHalves fails if the halves of two grades are not these, or not the same for both sides exchanged.
func checkHalves(t *testing.T, a, b int, want [2]int) {
	t.Helper()
	one, other := player("one", 7, a), player("other", -7, b)
	if h, e := index.Halves(one, other); h != want || e != api.OK {
		t.Errorf("Halves of the grades %d and %d: %v, error %d, want %v", a, b, h, e, want)
	}
	if h, e := index.Halves(other, one); h != [2]int{want[1], want[0]} || e != api.OK {
		t.Errorf("Halves of the grades %d and %d: %v, error %d, want %v exchanged", b, a, h, e, want)
	}
}

// P10.5: the one with the greater grade gets halves, up to the limit.
func TestHalves(t *testing.T) {
	for _, x := range []struct {
		a, b int
		want [2]int
	}{
		{0, 0, [2]int{}}, {-12, -12, [2]int{}}, {48, 48, [2]int{}}, {0, 1, [2]int{0, 1}}, {10, 0, [2]int{10, 0}}, {-12, 3, [2]int{0, 15}},
		{8, 47, [2]int{0, 39}}, {8, 48, [2]int{0, 40}}, {7, 48, [2]int{0, 40}}, {-12, 27, [2]int{0, 39}}, {-12, 28, [2]int{0, 40}},
		{-12, 29, [2]int{0, 40}}, {-12, 48, [2]int{0, 40}},
	} {
		checkHalves(t, x.a, x.b, x.want)
	}
	for a := api.MinGrade; a <= api.MaxGrade; a++ {
		for b := a; b <= api.MaxGrade; b++ {
			checkHalves(t, a, b, [2]int{0, min(b-a, 40)})
		}
	}
}

// P10.5: the new position of each code, with halves if the code has bisques; a has the side 0.
func TestBegin(t *testing.T) {
	for _, x := range []struct {
		code int
		a, b api.Player
		want [2]int
	}{
		{api.CodeAssociation, ann(), cat(), [2]int{0, 20}},
		{api.CodeAssociation, cat(), ann(), [2]int{20, 0}},
		{api.CodeAssociation, player("a", 0, 5), player("b", 0, 5), [2]int{}},
		{api.CodeAssociation, player("a", 0, -12), player("b", 0, 48), [2]int{0, 40}},
		{api.CodeShort, bob(), cat(), [2]int{0, 10}},
		{api.CodeShort, player("a", 0, 48), player("b", 0, -12), [2]int{40, 0}},
		{api.CodeAdvanced, ann(), cat(), [2]int{}},
		{api.CodeAdvanced, cat(), ann(), [2]int{}},
		{api.CodeFormer, ann(), cat(), [2]int{}},
		{api.CodeFormer, cat(), ann(), [2]int{}},
	} {
		want, e := game.New(x.code, x.want)
		if e != api.OK {
			t.Fatalf("New(%d, %v): error %d", x.code, x.want, e)
		}
		g, e := index.Begin(x.code, x.a, x.b)
		if g != want || e != api.OK {
			t.Errorf("Begin(%d, %v, %v): %v, error %d, want %v", x.code, x.a, x.b, g, e, want)
		}
		if g.Halves != x.want || g.Code != x.code || game.Check(g) != api.OK {
			t.Errorf("Begin(%d, %v, %v): %v", x.code, x.a, x.b, g)
		}
	}
}

// P10.5: codes that there are not.
func TestBeginErrors(t *testing.T) {
	for _, code := range []int{-1, api.Codes, math.MinInt, math.MaxInt} {
		for _, l := range [][2]api.Player{{ann(), cat()}, {cat(), ann()}, {ann(), player("b", 0, 0)}} {
			if g, e := index.Begin(code, l[0], l[1]); g != (api.Game{}) || e != api.ErrRange {
				t.Errorf("Begin(%d, %v, %v): %v, error %d, want ErrRange", code, l[0], l[1], g, e)
			}
		}
	}
}
