package mistake_test

import (
	"testing"

	"roquet/api"
	"roquet/mistake"
)

// P7.1: the limits are those of the table, and there are no other codes and kinds.
func TestLimit(t *testing.T) {
	for code, row := range modelLimits {
		for i, want := range row {
			if n, e := mistake.Limit(code, i+1); n != want || e != api.OK {
				t.Errorf("Limit(%d, %d): %d, error %d, want %d", code, i+1, n, e, want)
			}
		}
		for _, kind := range append(far, 0) {
			if n, e := mistake.Limit(code, kind); n != 0 || e != api.ErrArg {
				t.Errorf("Limit(%d, %d): %d, error %d", code, kind, n, e)
			}
		}
	}
	for _, code := range far {
		for _, kind := range append(far, 0, 1, 2, 3) {
			if n, e := mistake.Limit(code, kind); n != 0 || e != api.ErrArg {
				t.Errorf("Limit(%d, %d): %d, error %d", code, kind, n, e)
			}
		}
	}
}
