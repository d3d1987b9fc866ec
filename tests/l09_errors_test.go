package tests

import (
	"fmt"
	"math"
	"slices"
	"testing"

	"loop.example/g01363/impl"
)

// TestNumbersThatAreNoCircle asks each function for what is no circle, whatever the other arguments are.
func TestNumbersThatAreNoCircle(t *testing.T) {
	others := append([]int64{0, 1, 2, 3, 4, 8, 60, 1000}, noCircleNumbers()...)
	for _, c := range notCircles() {
		for i, x := range others {
			checkCircleCode(t, impl.ErrRange, c, x, others[(i+1)%len(others)], others[(i+2)%len(others)])
			checkCircleCode(t, impl.ErrRange, c, 0, x, 1)
			checkCircleCode(t, impl.ErrRange, c, 1, 0, x)
		}
	}
}

// TestFarNumbers asks each function for all three numbers that are far from a circle's, and for some of them.
func TestFarNumbers(t *testing.T) {
	far := append([]int64{0, 1, 2, 4}, noCircleNumbers()...)
	for _, n := range far {
		for _, m := range far {
			for _, u := range far {
				is := n > 0 && n <= 4 && (m == 2 || m == 4) && u == 1
				if impl.IsCircle(n, m, u) != is {
					t.Errorf("IsCircle(%d, %d, %d) is not %t", n, m, u, is)
				}
				if !is {
					checkCircleCode(t, impl.ErrRange, circleByHand{n, m, u}, m, u, n)
				}
			}
			if results := all(impl.UnitsOfCircle(n, m)); (n <= 0 || n > 4 || m < 2 || m > 4) && !failed(results, impl.ErrRange) {
				t.Errorf("UnitsOfCircle(%d, %d): %v", n, m, results)
			}
		}
	}
}

// TestTurnsAndModuliLimits: n = MaxTurns and M = MaxCircle are accepted, and one more is not.
func TestTurnsAndModuliLimits(t *testing.T) {
	for _, c := range []circleByHand{{60, 200, 1}, {60, 200, 199}, {1, 2, 1}, {60, 2, 1}, {1, 200, 1}} {
		if !impl.IsCircle(c.n, c.m, c.u) {
			t.Errorf("%v is no circle", c)
		}
		for _, calls := range []map[string][]any{circleCalls(c), degreeCallsOf(c, 0), tateClassCalls(c, 0, 0), reducedCalls(c, c.n)} {
			checkNoError(t, c, calls)
		}
		if units, code := impl.UnitsOfCircle(c.n, c.m); code != impl.ErrNone || !slices.Contains(units, c.u) {
			t.Errorf("UnitsOfCircle(%d, %d) = %v, %d", c.n, c.m, units, code)
		}
	}
	for _, c := range []circleByHand{{61, 200, 1}, {62, 200, 199}, {60, 201, 1}, {60, 201, 200}, {0, 2, 1}, {60, 1, 1}, {60, 1, 0}} {
		checkCircleCode(t, impl.ErrRange, c, 0, 0, 1)
	}
	for _, k := range [][2]int64{{61, 200}, {60, 201}, {0, 2}, {1, 1}, {-1, 5}, {5, -5}, {0, 0}, {61, 201}, {1, 0}} {
		if results := all(impl.UnitsOfCircle(k[0], k[1])); !failed(results, impl.ErrRange) {
			t.Errorf("UnitsOfCircle(%v): %v", k, results)
		}
	}
}

// checkNoError reports the calls that return an error.
func checkNoError(t *testing.T, c circleByHand, calls map[string][]any) {
	t.Helper()
	for call, results := range calls {
		if codeOf(results) != impl.ErrNone {
			t.Errorf("%s of %v: %v", call, c, results)
		}
	}
}

// TestTateDegreeLimits: the degrees from -1000 to 1000 are accepted, and others are ErrRange, also beside a
// number that is no member, or none at all.
func TestTateDegreeLimits(t *testing.T) {
	for _, c := range []circleByHand{{1, 2, 1}, {2, 4, 3}, {4, 8, 5}, {60, 200, 199}} {
		for _, degree := range []int64{-1000, -999, -1, 0, 1, 999, 1000} {
			checkNoError(t, c, degreeCallsOf(c, degree))
			checkNoError(t, c, tateClassCalls(c, degree, 0))
		}
		for _, degree := range []int64{-1001, 1001, -1002, 1002, 2000, -1 << 40, 1 << 40, math.MinInt64, math.MinInt64 + 1, math.MaxInt64, math.MaxInt64 - 1} {
			checkCode(t, fmt.Sprint(c, ", ", degree), impl.ErrRange, degreeCallsOf(c, degree))
			for _, x := range []int64{0, 1, c.m - 1, c.m, -1, math.MinInt64, math.MaxInt64} {
				checkCode(t, fmt.Sprint(c, ", ", degree, ", ", x), impl.ErrRange, tateClassCalls(c, degree, x))
			}
		}
	}
}

// TestNumbersOutsideOfCircles: 0 and M - 1 are numbers, members or not; -1, M and others are ErrRange, even if
// a number with the same rest has a class, a wrap and a ladder.
func TestNumbersOutsideOfCircles(t *testing.T) {
	eachCochainCircle(func(c circleByHand) {
		for _, x := range []int64{-1, c.m, -c.m, c.m + 1, 2 * c.m, math.MinInt64, math.MinInt64 + 1, math.MaxInt64, math.MaxInt64 - 1} {
			what := fmt.Sprint(c, ", ", x)
			for _, degree := range []int64{-1000, -1, 0, 1, 1000} {
				checkCode(t, what, impl.ErrRange, tateClassCalls(c, degree, x))
			}
			checkCode(t, what, impl.ErrRange, cyclicCochainCalls(c, x))
		}
		checkNoError(t, c, tateClassCalls(c, 0, 0))
		checkNoError(t, c, cyclicCochainCalls(c, 0))
		for _, calls := range []map[string][]any{tateClassCalls(c, 0, c.m-1), tateClassCalls(c, 1, c.m-1), cyclicCochainCalls(c, c.m-1)} {
			for call, results := range calls {
				if codeOf(results) != impl.ErrNone && !failed(results, impl.ErrState) {
					t.Errorf("%s(%v, %d): %v", call, c, c.m-1, results)
				}
			}
		}
	})
}

// TestCyclicCochainLimits: n = 8 and M = 12 are accepted; n = 9 and M = 13 have no cochains, though they tell
// circles. That is ErrRange also for numbers that would be ErrState.
func TestCyclicCochainLimits(t *testing.T) {
	for _, c := range []circleByHand{{8, 12, 1}, {8, 12, 11}, {8, 2, 1}, {1, 12, 1}, {1, 2, 1}} {
		checkNoError(t, c, cyclicCochainCalls(c, 0))
	}
	for _, c := range []circleByHand{{9, 12, 1}, {9, 7, 2}, {9, 2, 1}, {10, 12, 11}, {60, 12, 11}, {8, 13, 1}, {8, 13, 5}, {2, 13, 12}, {1, 13, 1}, {2, 200, 199}, {9, 13, 3}, {60, 200, 199}} {
		if !impl.IsCircle(c.n, c.m, c.u) {
			t.Errorf("%v is no circle", c)
		}
		for x := int64(-1); x <= c.m; x++ {
			checkCode(t, fmt.Sprint(c, ", ", x), impl.ErrRange, cyclicCochainCalls(c, x))
		}
	}
	eachSomeCircle(func(c circleByHand) {
		for call, results := range cyclicCochainCalls(c, 0) {
			if isWithin := c.n <= 8 && c.m <= 12; isWithin && codeOf(results) != impl.ErrNone || !isWithin && !failed(results, impl.ErrRange) {
				t.Errorf("%s(%v, 0): %v", call, c, results)
			}
		}
	})
}

// TestNumbersWithoutCochains: x whose product with u has another rest has no wrap, but may have a ladder, and x
// whose product with the norm has not the rest 0 has no ladder, but may have a wrap.
func TestNumbersWithoutCochains(t *testing.T) {
	for _, k := range []struct {
		c            circleByHand
		x            int64
		wrap, ladder int64
	}{
		{circleByHand{2, 4, 3}, 1, impl.ErrState, impl.ErrNone},
		{circleByHand{2, 4, 3}, 2, impl.ErrNone, impl.ErrNone},
		{circleByHand{2, 4, 1}, 1, impl.ErrNone, impl.ErrState},
		{circleByHand{1, 4, 1}, 3, impl.ErrNone, impl.ErrState},
		{circleByHand{2, 8, 3}, 1, impl.ErrState, impl.ErrState},
		{circleByHand{2, 8, 3}, 4, impl.ErrNone, impl.ErrNone},
		{circleByHand{8, 12, 11}, 11, impl.ErrState, impl.ErrNone},
	} {
		for call, code := range map[string]int64{"WrapOf": k.wrap, "LadderOf": k.ladder} {
			if results := cyclicCochainCalls(k.c, k.x)[call]; codeOf(results) != code || code != impl.ErrNone && !failed(results, code) {
				t.Errorf("%s(%v, %d): %v, not the code %d", call, k.c, k.x, results, code)
			}
		}
	}
}

// TestNumbersThatDivideNoTurns: k that is no divisor of n, 0, less than 0, or greater than n is ErrRange.
func TestNumbersThatDivideNoTurns(t *testing.T) {
	eachSomeCircle(func(c circleByHand) {
		for _, k := range []int64{0, -1, -2, -c.n, c.n + 1, 2 * c.n, 61, math.MinInt64, math.MinInt64 + 1, math.MaxInt64, math.MaxInt64 - 1} {
			if results := all(impl.ReducedCircle(c.n, c.m, c.u, k)); !failed(results, impl.ErrRange) {
				t.Errorf("ReducedCircle(%v, %d): %v", c, k, results)
			}
		}
	})
}

// TestCirclesShareNoMemory overwrites results: neither other lists of them, nor later results change.
func TestCirclesShareNoMemory(t *testing.T) {
	values := func(f impl.Cochain, code int64) [][]int64 { return [][]int64{f.Values} }
	both := func(members, nought []int64, code int64) [][]int64 { return [][]int64{members, nought} }
	calls := map[string]func() [][]int64{
		"TateMembers":                func() [][]int64 { return both(impl.TateMembers(4, 8, 5, 0)) },
		"TateMembers, all of them":   func() [][]int64 { return both(impl.TateMembers(1, 8, 1, 0)) },
		"TateMembers, 0 alone":       func() [][]int64 { return both(impl.TateMembers(1, 8, 1, 1)) },
		"TateMembers, the odd ones":  func() [][]int64 { return both(impl.TateMembers(2, 4, 3, -1)) },
		"TateMembers, all are equal": func() [][]int64 { return both(impl.TateMembers(2, 9, 8, 1)) },
		"UnitsOfCircle": func() [][]int64 {
			units, _ := impl.UnitsOfCircle(60, 200)
			return [][]int64{units}
		},
		"WrapOf":   func() [][]int64 { return values(impl.WrapOf(4, 8, 5, 2)) },
		"LadderOf": func() [][]int64 { return values(impl.LadderOf(4, 5, 2, 1)) },
	}
	checkSharing(t, calls, func() string { return "" })
}

// TestNoGoroutineOfCirclesIsLeft: after many calls, those with errors among them, there are no more goroutines
// than before.
func TestNoGoroutineOfCirclesIsLeft(t *testing.T) {
	checkNoGoroutineLeft(t, func() {
		eachCochainCircle(func(c circleByHand) {
			circleCalls(c)
			degreeCallsOf(c, -1)
			cyclicCochainCalls(c, c.m-1)
			circleCalls(circleByHand{c.n, c.m, 0})
			impl.UnitsOfCircle(c.n, c.m)
		})
	})
}

// TestCirclesAgain: the same arguments have the same results, also where calls go on side by side.
func TestCirclesAgain(t *testing.T) {
	checkAgain(t, func() string {
		told := ""
		eachCochainCircle(func(c circleByHand) {
			told += fmt.Sprint(circleCalls(c), degreeCallsOf(c, 1), tateClassCalls(c, 0, 0), cyclicCochainCalls(c, c.m/2), reducedCalls(c, c.n))
		})
		return told
	})
}
