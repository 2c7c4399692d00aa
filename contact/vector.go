package contact

import "roquet/api"

// axis takes one coordinate of a point: X, or Y.
type axis func(api.Point) int64

// both returns the point each of whose coordinates is what f makes of this axis.
func both(f func(of axis) int64) api.Point {
	return api.Point{
		X: f(func(p api.Point) int64 { return p.X }),
		Y: f(func(p api.Point) int64 { return p.Y }),
	}
}

// plus returns the sum of p and q.
func plus(p, q api.Point) api.Point {
	return both(func(of axis) int64 { return of(p) + of(q) })
}

// minus returns p less q.
func minus(p, q api.Point) api.Point {
	return both(func(of axis) int64 { return of(p) - of(q) })
}

// dot returns how far q goes along p, times the length of p.
func dot(p, q api.Point) int64 {
	return p.X*q.X + p.Y*q.Y
}

// cross returns how far q goes to the left of p, times the length of p.
func cross(p, q api.Point) int64 {
	return p.X*q.Y - p.Y*q.X
}
