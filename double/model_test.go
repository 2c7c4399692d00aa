package double_test

import (
	"math/big"

	"roquet/api"
)

// rat returns a whole number as a fraction.
func rat(n int64) *big.Rat { return new(big.Rat).SetInt64(n) }

// vector is a way whose coordinates need not be whole.
type vector struct{ x, y *big.Rat }

// vectorOf returns the way from a to b.
func vectorOf(a, b api.Point) vector { return vector{rat(b.X - a.X), rat(b.Y - a.Y)} }

// times returns v, s times.
func (v vector) times(s *big.Rat) vector {
	return vector{new(big.Rat).Mul(v.x, s), new(big.Rat).Mul(v.y, s)}
}

// minus returns v - w.
func (v vector) minus(w vector) vector {
	return vector{new(big.Rat).Sub(v.x, w.x), new(big.Rat).Sub(v.y, w.y)}
}

// plus returns v + w.
func (v vector) plus(w vector) vector {
	return vector{new(big.Rat).Add(v.x, w.x), new(big.Rat).Add(v.y, w.y)}
}

// dot returns the product of two ways.
func (v vector) dot(w vector) *big.Rat {
	return new(big.Rat).Add(new(big.Rat).Mul(v.x, w.x), new(big.Rat).Mul(v.y, w.y))
}

// share returns n / d, but at least 0 and at most 1; 0 if d is 0.
func share(n, d *big.Rat) *big.Rat {
	if d.Sign() == 0 || n.Sign() <= 0 {
		return rat(0)
	}
	if n.Cmp(d) >= 0 {
		return rat(1)
	}
	return new(big.Rat).Quo(n, d)
}

// nearest returns the least square of a distance of points of both ways, found as the least value of a function of two shares s and t of them: inside of their square, where it has no slope, or on the border of that.
func nearest(p, q api.Pass) *big.Rat {
	u, v, w := vectorOf(p.A, p.B), vectorOf(q.A, q.B), vectorOf(p.A, q.A)
	squareAt := func(s, t *big.Rat) *big.Rat {
		gap := u.times(s).minus(v.times(t)).minus(w)
		return gap.dot(gap)
	}
	least := squareAt(rat(0), rat(0))
	look := func(s, t *big.Rat) {
		if d := squareAt(s, t); d.Cmp(least) < 0 {
			least = d
		}
	}
	for n := range int64(2) {
		edge := rat(n)
		look(share(v.times(edge).plus(w).dot(u), u.dot(u)), edge)
		look(edge, share(u.times(edge).minus(w).dot(v), v.dot(v)))
	}
	// det = (u u) (v v) - (u v)^2, of u u s - u v t = u w and u v s - v v t = v w.
	uu, vv, uv, uw, vw := u.dot(u), v.dot(v), u.dot(v), u.dot(w), v.dot(w)
	mul := func(a, b *big.Rat) *big.Rat { return new(big.Rat).Mul(a, b) }
	sub := func(a, b *big.Rat) *big.Rat { return new(big.Rat).Sub(a, b) }
	if det := sub(mul(uu, vv), mul(uv, uv)); det.Sign() != 0 {
		s := new(big.Rat).Quo(sub(mul(uw, vv), mul(vw, uv)), det)
		t := new(big.Rat).Quo(sub(mul(uw, uv), mul(vw, uu)), det)
		if isShare(s) && isShare(t) {
			look(s, t)
		}
	}
	return least
}

// isShare reports whether a number is from 0 to 1.
func isShare(s *big.Rat) bool { return s.Sign() >= 0 && s.Cmp(rat(1)) <= 0 }

// modelMeet reports whether two passes meet.
func modelMeet(p, q api.Pass) bool {
	both := rat(p.R + q.R)
	return p.Game != q.Game && nearest(p, q).Cmp(both.Mul(both, both)) < 0
}

// model arranges passes as the chapter says, second by second.
type model struct {
	l      []api.Pass
	starts map[int]int64
	slots  []api.Slot
	ready  []int64
	met    map[[2]int]bool
}

// meet reports whether the passes i and k meet.
func (m *model) meet(i, k int) bool {
	key := [2]int{i, k}
	met, known := m.met[key]
	if !known {
		met = modelMeet(m.l[i], m.l[k])
		m.met[key] = met
	}
	return met
}

// seconds returns all seconds that a pass takes.
func seconds(p api.Pass, start int64) map[int64]bool {
	all := map[int64]bool{}
	for s := start; s <= start+p.Long-1; s++ {
		all[s] = true
	}
	return all
}

// together reports whether two passes take a second in common.
func together(p api.Pass, start int64, q api.Pass, other int64) bool {
	taken := seconds(q, other)
	for s := range seconds(p, start) {
		if taken[s] {
			return true
		}
	}
	return false
}

// readyAt returns when the pass i is ready, if the one before it has a start.
func (m *model) readyAt(i int) int64 {
	for k := i - 1; k >= 0; k-- {
		if m.l[k].Game == m.l[i].Game {
			return max(m.l[i].Asked, m.starts[k]+m.l[k].Long)
		}
	}
	return m.l[i].Asked
}

// isFree reports whether the pass i may start then.
func (m *model) isFree(i int, start int64) bool {
	for k, other := range m.starts {
		if m.l[k].Game != m.l[i].Game && m.meet(i, k) && together(m.l[i], start, m.l[k], other) {
			return false
		}
	}
	return true
}

// chance returns the chance of the pass i.
func (m *model) chance(i int) int64 {
	s := m.readyAt(i)
	for !m.isFree(i, s) {
		s++
	}
	return s
}

// first returns the first pass of a game without a start, or -1.
func (m *model) first(game int) int {
	for i, p := range m.l {
		if _, has := m.starts[i]; p.Game == game && !has {
			return i
		}
	}
	return -1
}

// choose returns which pass starts now, of p and q.
func (m *model) choose(p, q int) int {
	if p < 0 {
		return q
	}
	if q < 0 {
		return p
	}
	x, y, chanceP, chanceQ := m.l[p], m.l[q], m.chance(p), m.chance(q)
	if m.meet(p, q) && together(x, chanceP, y, chanceQ) {
		if x.Rank != y.Rank {
			if x.Rank > y.Rank {
				return p
			}
			return q
		}
		if x.Asked != y.Asked {
			if x.Asked < y.Asked {
				return p
			}
			return q
		}
		return p
	}
	if chanceQ < chanceP {
		return q
	}
	return p
}

// place gives the pass i its slot.
func (m *model) place(i int) {
	s := m.chance(i)
	m.ready[i] = m.readyAt(i)
	m.slots[i] = api.Slot{Start: s, By: -1}
	if s != m.ready[i] {
		for k, q := range m.l {
			other, has := m.starts[k]
			if has && q.Game != m.l[i].Game && m.meet(i, k) && other+q.Long == s {
				m.slots[i].By = k
				break
			}
		}
	}
	m.starts[i] = s
}

// modelArrange arranges passes.
func modelArrange(l []api.Pass) *model {
	m := &model{l: l, starts: map[int]int64{}, slots: make([]api.Slot, len(l)), ready: make([]int64, len(l)), met: map[[2]int]bool{}}
	for range l {
		m.place(m.choose(m.first(0), m.first(1)))
	}
	return m
}

// waited returns what both games waited for their passes up to the one of index n.
func (m *model) waited(n int) [2]int64 {
	var w [2]int64
	for i := 0; i <= n; i++ {
		w[m.l[i].Game] += m.slots[i].Start - m.ready[i]
	}
	return w
}

// inTime returns how many passes are in time.
func (m *model) inTime(limits [2]int64) [2]int {
	var count [2]int
	for i, p := range m.l {
		if m.slots[i].Start < limits[p.Game]+m.waited(i)[p.Game] {
			count[p.Game]++
		}
	}
	return count
}
