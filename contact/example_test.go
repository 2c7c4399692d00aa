package contact_test

import (
	"testing"

	"roquet/api"
	"roquet/contact"
)

// The chapter's examples, and that of README.md.
func TestExamples(t *testing.T) {
	b := ball()
	s, u := motion(at(0, 0), at(1000000, 0)), motion(at(5888, 0), at(0, 0))
	if m, e := contact.Step(b, motion(at(0, 0), at(28800, 100))); m.At != at(1, 0) || m.Rest != at(0, 100) || e != api.OK {
		t.Errorf("Step: %v, error %d", m, e)
	}
	for loss, want := range map[int64]api.Point{100: at(240, 320), 500: at(0, 0)} {
		if m, e := contact.Slow(at(300, 400), loss); m != want || e != api.OK {
			t.Errorf("Slow by %d: %v, error %d", loss, m, e)
		}
	}
	if k, e := contact.Kick(b, s, b, u, lively()); k != at(899992, 0) || e != api.OK {
		t.Errorf("Kick: %v, error %d", k, e)
	}
	if m, e := contact.Bump(b, s, disc(3000, 0, 56), lively()); m.M != at(-798200, 0) || e != api.OK {
		t.Errorf("Bump: %v, error %d", m, e)
	}
	one, two, e := contact.Bounce(b, s, b, u, lively())
	if one.M != at(100008, 0) || two.M != at(899992, 0) || e != api.OK {
		t.Errorf("Bounce: %v and %v, error %d", one, two, e)
	}
	if sum := totalOf(t, []api.Ball{b, b}, []api.Motion{one, two}); sum != at(1000000, 0) {
		t.Errorf("Total: %v", sum)
	}
	if m, e := contact.Tick(b, two, 64); m.At != at(5888+32000, 0) || m.Rest != at(-8192, 0) || e != api.OK {
		t.Errorf("Tick: %v, error %d", m, e)
	}
	u.At.X = 5889
	if _, _, e := contact.Bounce(b, s, b, u, lively()); e != api.ErrNone {
		t.Errorf("Bounce of balls that are apart: error %d", e)
	}
	s.M.X, u.At.X = -1000000, 5888
	if _, _, e := contact.Bounce(b, s, b, u, lively()); e != api.ErrState {
		t.Errorf("Bounce of balls that part: error %d", e)
	}
}
