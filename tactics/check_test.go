package tactics_test

import (
	"math"
	"testing"

	"roquet/api"
	"roquet/tactics"
)

// changed returns a board of 3 by 2 cells that was changed.
func changed(change func(b *api.Board)) api.Board {
	b := fullBoard()
	b.Long = 2
	b.Hoops = []int{0, 5}
	change(&b)
	return b
}

// badBoards are boards each of which is not valid for one thing.
func badBoards() []api.Board {
	l := []api.Board{{}}
	add := func(change func(b *api.Board)) { l = append(l, changed(change)) }
	for _, n := range []int{0, -1, api.MaxEdge + 1, -3, math.MinInt, math.MaxInt} {
		add(func(b *api.Board) { b.Wide = n })
		add(func(b *api.Board) { b.Long = n })
		add(func(b *api.Board) { b.Wide, b.Long = n, n })
	}
	for _, c := range []int{-1, 6, 7, math.MinInt, math.MaxInt} {
		add(func(b *api.Board) { b.Hoops = []int{c} })
		add(func(b *api.Board) { b.Hoops = []int{0, 1, 2, 3, 4, c} })
		add(func(b *api.Board) { b.Hoops = []int{c, 1, 2, 3} })
	}
	add(func(b *api.Board) { b.Hoops = nil })
	add(func(b *api.Board) { b.Hoops = []int{} })
	add(func(b *api.Board) { b.Hoops = make([]int, api.MaxRuns+1) })
	add(func(b *api.Board) { b.Hoops = make([]int, 100000) })
	add(func(b *api.Board) { b.Wide, b.Hoops = 1, []int{2} })
	add(func(b *api.Board) { b.Long, b.Hoops = 1, []int{3} })
	for i := range api.MaxEdge {
		for _, c := range badChances() {
			add(func(b *api.Board) { b.Run[i] = c })
			add(func(b *api.Board) { b.Hit[i] = c })
			add(func(b *api.Board) { b.Wide, b.Long, b.Hoops, b.Hit[i] = 1, 1, []int{0}, c })
		}
	}
	return l
}

// badScenes are scenes each of which is not valid, for one thing, for the board of 3 by 2 cells.
func badScenes() []api.Scene {
	var l []api.Scene
	for _, c := range []int{-1, 6, 8, math.MinInt, math.MaxInt} {
		l = append(l, scene(c, 0, 1), scene(1, 0, c), scene(1, 0, c, 2), scene(1, 0, 2, c))
	}
	for _, n := range []int{-1, 3, 6, math.MinInt, math.MaxInt} {
		l = append(l, scene(0, n), scene(0, n, 1, 2))
	}
	l = append(l, scene(0, 0, 1, 2, 3), scene(0, 0, make([]int, 100000)...))
	return append(l,
		api.Scene{Balls: []int{1}},
		api.Scene{Dead: []bool{true}},
		api.Scene{Balls: []int{1}, Dead: []bool{true, false}},
		api.Scene{Balls: []int{1, 2}, Dead: []bool{true}},
		api.Scene{Balls: []int{1, 2, 3}, Dead: []bool{true, true}},
		api.Scene{Balls: []int{1, 2}, Dead: make([]bool, 100000)},
	)
}

// P9.3: boards that are valid, up to the limits.
func TestCheckBoard(t *testing.T) {
	for _, b := range []api.Board{
		exampleBoard(), fullBoard(), changed(func(*api.Board) {}),
		{Wide: 1, Long: 1, Hoops: []int{0}},
		{Wide: 1, Long: 1, Hoops: []int{0, 0, 0, 0, 0, 0}},
		{Wide: 3, Long: 1, Hoops: []int{2}},
		{Wide: 1, Long: 3, Hoops: []int{2, 0}},
		{Wide: 2, Long: 2, Hoops: []int{3}, Run: edges(sure(0), bounds(0, whole), sure(whole)), Hit: edges(sure(whole), sure(whole), bounds(5, 6))},
		{Wide: 3, Long: 3, Hoops: []int{8, 8, 8, 8, 8, 8}, Hit: edges(bounds(whole-1, whole), bounds(0, 1), sure(1))},
	} {
		if e := tactics.CheckBoard(b); e != api.OK {
			t.Errorf("CheckBoard(%v): error %d", b, e)
		}
	}
}

// P9.3: boards that are not valid.
func TestCheckBoardErrors(t *testing.T) {
	for _, b := range badBoards() {
		if e := tactics.CheckBoard(b); e != api.ErrArg {
			t.Errorf("CheckBoard(%v): error %d, want ErrArg", b, e)
		}
	}
}

// P9.3: scenes that are valid, those that are not, and those of a board that is not.
func TestCheckScene(t *testing.T) {
	b := changed(func(*api.Board) {})
	for _, s := range []api.Scene{
		{}, {Balls: []int{}, Dead: []bool{}}, scene(5, 2), scene(0, 0, 0), scene(5, 1, 5, 5), dead(dead(scene(0, 2, 0, 5), 0), 1),
	} {
		if e := tactics.CheckScene(b, s); e != api.OK {
			t.Errorf("CheckScene(%v, %v): error %d", b, s, e)
		}
	}
	for _, s := range badScenes() {
		if e := tactics.CheckScene(b, s); e != api.ErrRange {
			t.Errorf("CheckScene(%v, %v): error %d, want ErrRange", b, s, e)
		}
	}
	for _, bad := range badBoards() {
		for _, s := range []api.Scene{{}, scene(0, 0, 0), scene(-1, 9, 9, 9, 9)} {
			if e := tactics.CheckScene(bad, s); e != api.ErrArg {
				t.Errorf("CheckScene(%v, %v): error %d, want ErrArg", bad, s, e)
			}
		}
	}
}

// P9.3: the distances of all cells of all boards.
func TestDistance(t *testing.T) {
	for _, x := range []struct{ wide, long, c, d, want int }{
		{3, 3, 0, 8, 2}, {3, 3, 0, 4, 1}, {3, 3, 2, 3, 2}, {3, 3, 1, 7, 2}, {3, 3, 3, 5, 2}, {3, 3, 5, 6, 2}, {3, 3, 4, 4, 0}, {3, 3, 4, 2, 1},
		{2, 3, 1, 2, 1}, {2, 3, 0, 5, 2}, {3, 2, 2, 3, 2}, {3, 1, 0, 2, 2}, {1, 3, 0, 2, 2}, {1, 3, 1, 2, 1}, {2, 1, 0, 1, 1}, {1, 1, 0, 0, 0},
	} {
		b := api.Board{Wide: x.wide, Long: x.long, Hoops: []int{0}}
		checkDistance(t, b, x.c, x.d, x.want)
		checkDistance(t, b, x.d, x.c, x.want)
	}
	for wide := 1; wide <= api.MaxEdge; wide++ {
		for long := 1; long <= api.MaxEdge; long++ {
			b := api.Board{Wide: wide, Long: long, Hoops: []int{0}}
			for c := range wide * long {
				for d := range wide * long {
					checkDistance(t, b, c, d, newModel(b).distance(c, d))
				}
			}
		}
	}
}

// checkDistance fails if two cells do not have this distance.
func checkDistance(t *testing.T, b api.Board, c, d, want int) {
	t.Helper()
	if n, e := tactics.Distance(b, c, d); n != want || e != api.OK {
		t.Errorf("Distance(%d by %d, %d, %d): %d, error %d, want %d", b.Wide, b.Long, c, d, n, e, want)
	}
}

// P9.3: the distance of what is no cell, and on what is no board.
func TestDistanceErrors(t *testing.T) {
	refused := func(b api.Board, c, d int, want api.Errno) {
		t.Helper()
		if n, e := tactics.Distance(b, c, d); n != 0 || e != want {
			t.Errorf("Distance(%v, %d, %d): %d, error %d, want %d", b, c, d, n, e, want)
		}
	}
	b := changed(func(*api.Board) {})
	for _, c := range []int{-1, 6, 8, math.MinInt, math.MaxInt} {
		refused(b, c, 0, api.ErrRange)
		refused(b, 5, c, api.ErrRange)
		refused(b, c, c, api.ErrRange)
		for _, bad := range badBoards() {
			refused(bad, c, 0, api.ErrArg)
			refused(bad, 0, 0, api.ErrArg)
		}
	}
}
