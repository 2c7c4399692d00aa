package club_test

import (
	"slices"
	"testing"

	"roquet/api"
	"roquet/club"
)

// opening returns the doings of the first four turns, after which anything may be passed.
func opening() []api.Doing {
	return doings(
		choose(0, at(20000, 5000)), strike(at(0, 1), 800000, tap(0, 1)),
		choose(1, at(70000, 195000)), strike(at(0, -1), 800000, double()...),
		choose(2, at(40000, 5000)), pass(),
		choose(3, at(90000, 195000)), strike(at(0, -1), 900000),
	)
}

// P12.6: doings are done one after another.
func TestReplay(t *testing.T) {
	m := mustNew(t, setup())
	l := opening()
	for n := range len(l) + 1 {
		again, count, e := club.Replay(setup(), l[:n])
		if again == nil || count != n || e != api.OK || !sameStates(stateOf(again), stateOf(m)) {
			t.Fatalf("Replay of %d doings: %v, %d, error %d, want %v", n, again, count, e, stateOf(m))
		}
		if n < len(l) {
			mustDo(t, m, l[n])
		}
	}
}

// P12.6: the first doing that is an error ends it.
func TestReplayErrors(t *testing.T) {
	l := opening()
	for _, x := range []struct {
		name string
		l    []api.Doing
		n    int
		want api.Errno
	}{
		{"no doing", doings(api.Doing{}), 0, api.ErrArg},
		{"no baulk", doings(choose(0, at(1, 1)), api.Doing{}), 0, api.ErrRule},
		{"a stroke too many", slices.Insert(slices.Clone(l), 2, l[1]), 2, api.ErrState},
		{"a wrong blow", append(slices.Clone(l[:1]), strike(at(0, 0), 1), pass()), 1, api.ErrArg},
		{"a wrong mark", append(slices.Clone(l), choose(0, at(0, 0)), strike(at(0, 1), 1, tap(2, 1)), api.Doing{}), 9, api.ErrArg},
		{"the other side", append(slices.Clone(l), choose(1, at(0, 0))), 8, api.ErrState},
		{"a doing too many", append(slices.Clone(l), slices.Repeat(doings(pass()), 393)...), 400, api.ErrFull},
		{"a wrong doing too many", append(append(slices.Clone(l), slices.Repeat(doings(pass()), 392)...), api.Doing{}), 400, api.ErrFull},
		{"the last doing", append(append(slices.Clone(l), slices.Repeat(doings(pass()), 391)...), api.Doing{}), 399, api.ErrArg},
	} {
		if m, n, e := club.Replay(setup(), x.l); m != nil || n != x.n || e != x.want {
			t.Errorf("%s: Replay: %v, %d, error %d, want %d, error %d", x.name, m, n, e, x.n, x.want)
		}
	}
	most := append(slices.Clone(l), slices.Repeat(doings(pass()), 392)...)
	if m, n, e := club.Replay(setup(), most); m == nil || n != 400 || e != api.OK || len(m.Moves()) != 400 {
		t.Errorf("Replay of 400 doings: %v, %d, error %d", m, n, e)
	}
}

// P12.9: what is done again, also through its text, is the same match.
func TestAgain(t *testing.T) {
	r := dice(9)
	for range 20 {
		s := anySetup(r)
		m := mustNew(t, s)
		var l []api.Doing
		var came []api.Done
		for range 30 {
			x := &model{s: s, g: m.Game(), at: [4]api.Point(m.Places())}
			if x.g.Phase == api.PhaseOver {
				break
			}
			d := anyDoing(r, x)
			if done, e := m.Do(d); e == api.OK {
				l, came = append(l, d), append(came, done)
			}
		}
		again, n, e := club.Replay(s, l)
		if e != api.OK || n != len(l) || !sameStates(stateOf(again), stateOf(m)) {
			t.Fatalf("Replay(%v): %d, error %d", l, n, e)
		}
		text, e := club.Text(l)
		if e == api.ErrArg { // the aims of some strokes are no valid places
			continue
		}
		read, e := club.Parse(text)
		if e != api.OK {
			t.Fatalf("Parse(%q): error %d", text, e)
		}
		again = mustNew(t, s)
		for i, d := range read {
			if done, e := again.Do(d); e != api.OK || !sameDone(done, came[i]) {
				t.Errorf("Do(%v) again: %v, error %d, want %v", d, done, e, came[i])
			}
		}
		if !sameStates(stateOf(again), stateOf(m)) {
			t.Errorf("through the text: %v, want %v", stateOf(again), stateOf(m))
		}
	}
}
