package tests

import (
	"math"
	"testing"
)

// edges has the numbers at which some check of the program changes its answer, and the ends of int64.
var edges = []int64{
	math.MinInt64, math.MinInt64 + 1, -1000000000001, -10001, -10000, -1001, -1000, -25, -24, -23, -13, -12, -11, -1,
	0, 1, 5, 6, 10, 11, 12, 13, 22, 23, 24, 25, 999, 1000, 1001, 9999, 10000, 10001,
	999999999999, 1000000000000, 1000000000001, math.MaxInt64 - 1, math.MaxInt64,
}

// same fails the test unless got is want.
func same[T comparable](t *testing.T, what string, got, want T) {
	t.Helper()
	if got != want {
		t.Errorf("%s: got %v, want %v", what, got, want)
	}
}

func within(n, least, greatest int64) bool { return n >= least && n <= greatest }

func magnitude(n int64) int64 {
	if n < 0 {
		return -n
	}
	return n
}
