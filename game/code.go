package game

import "roquet/api"

// codes are the laws of all codes.
var codes = [api.Codes]api.Code{
	api.CodeAssociation: {Hoops: 12, Peels: true, Bisques: true},
	api.CodeAdvanced:    {Hoops: 12, Lifts: [2]int{7, 10}, Peels: true},
	api.CodeShort:       {Hoops: 6, Peels: true, Bisques: true},
	api.CodeFormer:      {Hoops: 12, Partner: true},
}

// Laws returns the laws of a code.
func Laws(code int) (api.Code, api.Errno) {
	if !between(code, 0, len(codes)-1) {
		return api.Code{}, api.ErrRange
	}
	return codes[code], api.OK
}

// sideOf returns the side of a ball.
func sideOf(ball int) int {
	return ball % 2
}

// partnerOf returns the other ball of the side of a ball.
func partnerOf(ball int) int {
	return (ball + 2) % api.Balls
}

// isBall reports whether there is a ball with this number.
func isBall(ball int) bool {
	return between(ball, 0, api.Balls-1)
}

// between reports whether n is from low to high.
func between(n, low, high int) bool {
	return low <= n && n <= high
}
