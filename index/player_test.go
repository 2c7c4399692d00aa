package index_test

import (
	"math"
	"slices"
	"strings"
	"testing"

	"roquet/api"
	"roquet/index"
)

// badPlayers are players each of which is not valid for one thing.
func badPlayers() []api.Player {
	var l []api.Player
	for _, name := range badNames() {
		l = append(l, player(name, 0, 0))
	}
	for _, n := range []int64{-api.MaxIndex - 1, api.MaxIndex + 1, math.MinInt64, math.MaxInt64} {
		l = append(l, player("zoe", n, 0))
	}
	for _, n := range []int{api.MinGrade - 1, api.MaxGrade + 1, math.MinInt, math.MaxInt} {
		l = append(l, player("zoe", 0, n))
	}
	return l
}

// checkPlayers fails if the error of players is not this one.
func checkPlayers(t *testing.T, name string, p []api.Player, want api.Errno) {
	t.Helper()
	if e := index.CheckPlayers(p); e != want {
		t.Errorf("CheckPlayers, %s: error %d, want %d", name, e, want)
	}
}

// P10.3: players that are valid, as many as there may be.
func TestCheckPlayers(t *testing.T) {
	long := strings.Repeat("z", api.MaxName)
	checkPlayers(t, "nil", nil, api.OK)
	checkPlayers(t, "empty", []api.Player{}, api.OK)
	checkPlayers(t, "three", three(), api.OK)
	checkPlayers(t, "at the limits", []api.Player{
		player("a", api.MaxIndex, api.MinGrade), player("z", -api.MaxIndex, api.MaxGrade), player("0", api.MaxIndex, api.MaxGrade),
		player("9", -api.MaxIndex, api.MinGrade), player(long, 0, 0), player(long[1:], 0, 0),
	}, api.OK)
	checkPlayers(t, "as many as may be", players(api.MaxPlayers), api.OK)
}

// P10.3: players that are not valid, in the order of the errors.
func TestCheckPlayersErrors(t *testing.T) {
	bad := badPlayers()[0]
	for _, n := range []int{api.MaxPlayers + 1, 100000} {
		checkPlayers(t, "too many", slices.Repeat([]api.Player{ann()}, n), api.ErrMany)
		checkPlayers(t, "too many, and not valid", slices.Repeat([]api.Player{bad}, n), api.ErrMany)
	}
	checkPlayers(t, "too many, all different", append(players(api.MaxPlayers), player("zoe", 0, 0)), api.ErrMany)
	for _, x := range badPlayers() {
		checkPlayers(t, "one", []api.Player{x}, api.ErrArg)
		checkPlayers(t, "the first one", append([]api.Player{x}, three()...), api.ErrArg)
		checkPlayers(t, "the last one", append(players(api.MaxPlayers-1), x), api.ErrArg)
		checkPlayers(t, "behind the same name", []api.Player{ann(), ann(), x}, api.ErrArg)
	}
	checkPlayers(t, "equal players", []api.Player{ann(), ann()}, api.ErrHave)
	checkPlayers(t, "the same name", []api.Player{bob(), ann(), player("bob", 0, 0)}, api.ErrHave)
	checkPlayers(t, "the same name, of many", append(players(api.MaxPlayers-1), player("pa", 9, 9)), api.ErrHave)
}

// checkGain fails if the gain is not this one.
func checkGain(t *testing.T, a, b int64, level bool, want int64) {
	t.Helper()
	if n, e := index.Gain(a, b, level); n != want || e != api.OK {
		t.Errorf("Gain(%d, %d, %v): %d, error %d, want %d", a, b, level, n, e, want)
	}
}

// P10.3: the gains at both ends of each hundred, both ways round, and those with bisques.
func TestGain(t *testing.T) {
	table := []int64{10, 9, 8, 7, 6, 6, 5, 5, 4, 4, 3, 3, 3, 2, 2, 2, 1, 1, 1, 1}
	for k, want := range table {
		for _, d := range []int64{int64(100 * k), int64(100*k + 1), int64(100*k + 50), int64(100*k + 99)} {
			for _, b := range []int64{0, 1500, -730, -api.MaxIndex, api.MaxIndex - d} {
				checkGain(t, b+d, b, true, want)
				if d > 0 {
					checkGain(t, b, b+d, true, 20-want)
				}
				checkGain(t, b+d, b, false, 10)
				checkGain(t, b, b+d, false, 10)
			}
		}
	}
	for _, d := range []int64{2000, 2001, 2100, 9999, 10000, 19900, 20000} {
		checkGain(t, d-api.MaxIndex, -api.MaxIndex, true, 1)
		checkGain(t, -api.MaxIndex, d-api.MaxIndex, true, 19)
		checkGain(t, -api.MaxIndex, d-api.MaxIndex, false, 10)
	}
	checkGain(t, 0, 0, true, 10)
	checkGain(t, api.MaxIndex, api.MaxIndex, true, 10)
	for a := int64(-2300); a <= 2300; a += 23 {
		for b := int64(-2300); b <= 2300; b += 29 {
			checkGain(t, a, b, true, modelGain(a, b, true))
		}
	}
}

// P10.3: indexes that are too great have no gain.
func TestGainErrors(t *testing.T) {
	for _, n := range []int64{api.MaxIndex + 1, -api.MaxIndex - 1, math.MinInt64, math.MaxInt64} {
		for _, m := range []int64{0, n, -api.MaxIndex, api.MaxIndex, math.MaxInt64} {
			for _, level := range []bool{true, false} {
				if g, e := index.Gain(n, m, level); g != 0 || e != api.ErrRange {
					t.Errorf("Gain(%d, %d, %v): %d, error %d, want ErrRange", n, m, level, g, e)
				}
				if g, e := index.Gain(m, n, level); g != 0 || e != api.ErrRange {
					t.Errorf("Gain(%d, %d, %v): %d, error %d, want ErrRange", m, n, level, g, e)
				}
			}
		}
	}
}

// P10.3: the triggers of all grades, and of those that are none.
func TestTrigger(t *testing.T) {
	for _, x := range []struct {
		grade int
		want  int64
	}{{-12, 2480}, {-11, 2440}, {-1, 2040}, {0, 2000}, {1, 1950}, {2, 1900}, {20, 1000}, {40, 0}, {41, -50}, {48, -400}} {
		if n, e := index.Trigger(x.grade); n != x.want || e != api.OK {
			t.Errorf("Trigger(%d): %d, error %d, want %d", x.grade, n, e, x.want)
		}
	}
	for grade := api.MinGrade; grade <= api.MaxGrade; grade++ {
		if n, e := index.Trigger(grade); n != modelTrigger(grade) || e != api.OK {
			t.Errorf("Trigger(%d): %d, error %d", grade, n, e)
		}
	}
	for _, grade := range []int{-13, 49, math.MinInt, math.MaxInt} {
		if n, e := index.Trigger(grade); n != 0 || e != api.ErrRange {
			t.Errorf("Trigger(%d): %d, error %d, want ErrRange", grade, n, e)
		}
	}
}

// checkCount fails if two players are not these after a game.
func checkCount(t *testing.T, w, l api.Player, level bool, v, m api.Player) {
	t.Helper()
	if x, y, e := index.Count(w, l, level); x != v || y != m || e != api.OK {
		t.Errorf("Count(%v, %v, %v): %v, %v, error %d, want %v, %v", w, l, level, x, y, e, v, m)
	}
}

// P10.4: indexes, and the grades that follow from them, at triggers and beside them, and at the limits.
func TestCount(t *testing.T) {
	a := func(index int64, grade int) api.Player { return player("a", index, grade) }
	b := func(index int64, grade int) api.Player { return player("b", index, grade) }
	for _, x := range []struct {
		name  string
		w, l  api.Player
		level bool
		v, m  api.Player
	}{
		{"at level", a(2000, 0), b(2000, 0), true, a(2010, 0), b(1990, 0)},
		{"the favourite wins", a(2000, 0), b(1500, 10), true, a(2006, 0), b(1494, 10)},
		{"the favourite loses", a(1500, 10), b(2000, 0), true, a(1514, 10), b(1986, 0)},
		{"with bisques", a(1500, 10), b(2000, 0), false, a(1510, 10), b(1990, 0)},
		{"just at the trigger of a lesser grade", a(1040, 20), b(1040, 20), true, a(1050, 19), b(1030, 20)},
		{"one below it", a(1039, 20), b(1039, 20), true, a(1049, 20), b(1029, 20)},
		{"just at the trigger of a greater grade", a(960, 20), b(960, 20), true, a(970, 20), b(950, 21)},
		{"one above it", a(961, 20), b(961, 20), true, a(971, 20), b(951, 20)},
		{"below the grade 0", a(2030, 0), b(2050, -2), false, a(2040, -1), b(2040, -1)},
		{"about the grade 0", a(1990, 1), b(1960, 0), false, a(2000, 0), b(1950, 1)},
		{"many grades at once", a(2005, 48), b(-95, -12), false, a(2015, 0), b(-105, 42)},
		{"many grades at once, the other way", a(-110, -12), b(2010, 40), false, a(-100, 42), b(2000, 0)},
		{"the least grade", a(9000, -12), b(9000, 0), false, a(9010, -12), b(8990, -12)},
		{"the greatest grade", a(-500, 48), b(-500, 0), false, a(-490, 48), b(-510, 48)},
		{"the trigger of the greatest grade", a(-9000, 47), b(-390, 47), false, a(-8990, 48), b(-400, 48)},
		{"the trigger of the least grade", a(2470, -11), b(2480, -11), false, a(2480, -12), b(2470, -11)},
		{"above the triggers next to the limits", a(2440, -12), b(2450, -12), false, a(2450, -12), b(2440, -11)},
		{"below the triggers next to the limits", a(-360, 48), b(-390, 48), false, a(-350, 47), b(-400, 48)},
		{"cut off", a(9995, -12), b(-9995, 48), false, a(10000, -12), b(-10000, 48)},
		{"cut off, at level", a(10000, -12), b(10000, -12), true, a(10000, -12), b(9990, -12)},
		{"cut off below", a(-10000, 48), b(-10000, 48), true, a(-9990, 48), b(-10000, 48)},
		{"not cut off", a(9990, -12), b(-9990, 48), false, a(10000, -12), b(-10000, 48)},
		{"the greatest difference", a(-10000, 48), b(10000, -12), true, a(-9981, 48), b(9981, -12)},
	} {
		checkCount(t, x.w, x.l, x.level, x.v, x.m)
		if v, m := modelCount(x.w, x.l, x.level); v != x.v || m != x.m {
			t.Errorf("%s: the second version has %v, %v", x.name, v, m)
		}
	}
}

// P10.4: the players after a game are those of the second version, whatever indexes and grades they have.
func TestCountOfAll(t *testing.T) {
	r := dice(104)
	for range 100000 {
		w, l, level := anyPlayer(r, "a"), anyPlayer(r, "b"), r.Intn(2) == 0
		v, m := modelCount(w, l, level)
		checkCount(t, w, l, level, v, m)
	}
}

// checkSettle fails if all players, and their indexes, are not these after all games.
func checkSettle(t *testing.T, name string, p []api.Player, l []api.Sheet, after []api.Player, histories [][]int64) {
	t.Helper()
	if q, e := index.Settle(p, l); !slices.Equal(q, after) || e != api.OK {
		t.Errorf("Settle, %s, of %v: %v, error %d, want %v", name, brief(l), q, e, after)
	}
	for i, x := range p {
		if h, e := index.History(p, l, x.Name); !slices.Equal(h, histories[i]) || e != api.OK {
			t.Errorf("History, %s, of %s in %v: %v, error %d, want %v", name, x.Name, brief(l), h, e, histories[i])
		}
	}
}

// P10.4: games are counted in the order of the books, without those of others.
func TestSettle(t *testing.T) {
	checkSettle(t, "nothing", nil, nil, nil, nil)
	checkSettle(t, "no players", nil, ring(), nil, nil)
	checkSettle(t, "no sheets", three(), nil, three(), [][]int64{{2000}, {1500}, {1000}})
	checkSettle(t, "the ring", three(), ring(),
		[]api.Player{player("ann", 1989, 0), player("bob", 1500, 10), player("cat", 1011, 20)},
		[][]int64{{2000, 2006, 1989}, {1500, 1494, 1500}, {1000, 994, 1011}})
	// The order in which players stand is kept, and so is a grade that does not fit, without a game.
	p := []api.Player{cat(), player("eve", 3000, 48), ann()}
	checkSettle(t, "one game of them", p, ring(),
		[]api.Player{player("cat", 1017, 20), player("eve", 3000, 48), player("ann", 1983, 0)}, [][]int64{{1000, 1017}, {3000}, {2000, 1983}})
	// What counts is when games ended, and then their numbers.
	l := []api.Sheet{sheet(8, 30, "bob", "ann", 26, 0), sheet(9, 20, "ann", "bob", 26, 0), bisques(sheet(7, 30, "ann", "bob", 26, 0))}
	close := []api.Player{player("ann", 100, 38), player("bob", 9, 40)}
	checkSettle(t, "in order", close, l, []api.Player{player("ann", 110-1, 38), player("bob", 0, 40)}, [][]int64{{100, 110, 120, 109}, {9, -1, -11, 0}})
	// A corrected sheet, one that is void, and one that came twice.
	fixed := append(ring(), version(bisques(good()), 3), void(ring()[1], 1), ring()[2], good())
	checkSettle(t, "corrected", three(), fixed,
		[]api.Player{player("ann", 1993, 0), player("bob", 1490, 10), player("cat", 1017, 20)},
		[][]int64{{2000, 2010, 1993}, {1500, 1490}, {1000, 1017}})
}

// P10.4: the players after all games, and their indexes, are those of the second version.
func TestSettleOfAll(t *testing.T) {
	r := dice(1040)
	counted := 0
	for range 1200 {
		p, l := anyPlayers(r, len(pool())), anyLedger(r, 60)
		after, histories := modelSettle(p, l)
		checkSettle(t, "any", p, l, after, histories)
		for _, h := range histories {
			counted += len(h) - 1
		}
	}
	if counted < 5000 {
		t.Errorf("only %d games were counted", counted/2)
	}
}

// P10.4: as many players, and sheets, as there may be.
func TestSettleFull(t *testing.T) {
	p := players(api.MaxPlayers)
	r := dice(1041)
	var l []api.Sheet
	for i := range api.MaxSheets {
		s := anySheet(r, []string{p[i%24].Name, p[(5*i+7)%24].Name}, 1, 100, api.MaxScore)
		l = append(l, with(s, func(s *api.Sheet) { s.Number, s.Void = api.MaxNumbers-int64(i), false }))
	}
	after, histories := modelSettle(p, l)
	checkSettle(t, "full", p, l, after, histories)
	checkTable(t, "full", p, l, 0, api.MaxNumbers, modelTable(p, l, 0, api.MaxNumbers)...)
}
