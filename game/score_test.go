package game_test

import (
	"testing"

	"roquet/api"
	"roquet/game"
)

// P5.5: the points of both sides, in which a ball that is pegged out counts all hoops and the peg of its code.
func TestScore(t *testing.T) {
	for _, x := range []struct {
		g    api.Game
		want [2]int
	}{
		{mustNew(t, api.CodeAssociation, [2]int{}), [2]int{}},
		{turnOf(api.CodeAssociation), [2]int{6, 8}},
		{with(turnOf(api.CodeFormer), points(12, 1, 12, 11)), [2]int{24, 12}},
		{with(turnOf(api.CodeAssociation), points(12, 13, 1, 0)), [2]int{13, 13}},
		{with(turnOf(api.CodeShort), points(6, 13, 1, 0)), [2]int{7, 7}},
		{with(turnOf(api.CodeAdvanced), points(13, 12, 13, 13), won(0)), [2]int{26, 25}},
		{with(turnOf(api.CodeShort), points(6, 13, 13, 13), won(1)), [2]int{13, 14}},
	} {
		if score, e := game.Score(x.g); score != x.want || e != api.OK {
			t.Errorf("Score(%v): %v, error %d, want %v", x.g, score, e, x.want)
		}
	}
}

// P5.5: the score of any position.
func TestScoreOfAll(t *testing.T) {
	r := dice(55)
	for range 20000 {
		g := anyGame(r)
		var want [2]int
		for ball, n := range g.Points {
			if n == 13 {
				n = modelLaws[g.Code].Hoops + 1
			}
			want[ball%2] += n
		}
		if score, e := game.Score(g); score != want || e != api.OK {
			t.Fatalf("Score(%v): %v, error %d, want %v", g, score, e, want)
		}
	}
}
