package tests

import (
	"fmt"
	"math"
	"slices"
	"testing"

	"loop.example/g01363/impl"
)

// degreeCalls calls all functions of the chapter that ask for a degree.
func degreeCalls(g impl.Group, a impl.Module, n int64) map[string][]any {
	return map[string][]any{
		"CocycleSteps":      all(impl.CocycleSteps(g, a, n)),
		"BoundingSteps":     all(impl.BoundingSteps(g, a, n)),
		"InvariantsOf":      all(impl.InvariantsOf(g, a, n)),
		"OrderOfCohomology": all(impl.OrderOfCohomology(g, a, n)),
		"ClassList":         all(impl.ClassList(g, a, n)),
	}
}

// classCalls calls all functions of the chapter that ask for cochains. Another one comes beside f.
func classCalls(g impl.Group, a impl.Module, f, other impl.Cochain) map[string][]any {
	return map[string][]any{
		"LeastCocycle":            all(impl.LeastCocycle(g, a, f)),
		"AreCohomologous, first":  all(impl.AreCohomologous(g, a, f, other)),
		"AreCohomologous, second": all(impl.AreCohomologous(g, a, other, f)),
		"AreCohomologous, both":   all(impl.AreCohomologous(g, a, f, f)),
		"IsBounding":              all(impl.IsBounding(g, a, f)),
		"LeastBounded":            all(impl.LeastBounded(g, a, f)),
		"OrderOfClass":            all(impl.OrderOfClass(g, a, f)),
	}
}

// checkCode reports the calls that do not return a code.
func checkCode(t *testing.T, what string, code int64, calls map[string][]any) {
	t.Helper()
	for call, results := range calls {
		if !failed(results, code) {
			t.Errorf("%s of %s: %v, not the code %d", call, what, results, code)
		}
	}
}

// TestDegreesOutOfRange: ErrRange is asked before ErrLimit.
func TestDegreesOutOfRange(t *testing.T) {
	for name, g := range sampleGroups(t) {
		a := modulesOf(t, g, 12)[0]
		for _, n := range badDegrees() {
			checkCode(t, fmt.Sprint(name, ", ", n), impl.ErrRange, degreeCalls(g, a, n))
		}
	}
}

// TestRankLimit: 49 values are accepted, also for the least and the greatest M, and more are not: these
// are those of the degree 3 from five elements on. It is asked before ErrState.
func TestRankLimit(t *testing.T) {
	for name, g := range sampleGroups(t) {
		for _, m := range []int64{2, 8, 9, 12} {
			modules := modulesOf(t, g, m)
			a := modules[len(modules)-1]
			for n := range int64(4) {
				what := fmt.Sprint(name, ", ", a, ", ", n)
				zero := impl.Cochain{Degree: n, Values: make([]int64, len(cellsByHand(g, n)))}
				if n == 3 && len(g.Table) >= 5 {
					f := sampleCochain(g, a, n, 3)
					checkCode(t, what, impl.ErrLimit, degreeCalls(g, a, n))
					checkCode(t, what, impl.ErrLimit, classCalls(g, a, zero, zero))
					checkCode(t, what, impl.ErrLimit, classCalls(g, a, f, zero))
					continue
				}
				for call, results := range degreeCalls(g, a, n) {
					if results[1] != any(int64(impl.ErrNone)) {
						t.Errorf("%s of %s: %v", call, what, results)
					}
				}
				for call, results := range classCalls(g, a, zero, zero) {
					if results[1] != any(int64(impl.ErrNone)) && (call != "LeastBounded" || n > 0) {
						t.Errorf("%s of %s: %v", call, what, results)
					}
				}
			}
		}
	}
	if n := len(cellsByHand(named(t, "cube"), 2)); n != impl.MaxRank {
		t.Errorf("cochains of the degree 2 of cube have %d values", n)
	}
}

// TestClassesLimit: as many as MaxClasses are accepted, and more are not. No group has more for the
// degrees that MaxRank leaves.
func TestClassesLimit(t *testing.T) {
	cube := named(t, "cube")
	for m := int64(2); m <= 12; m += 2 {
		a, _ := impl.TrivialModule(cube, m)
		classes := classList(t, cube, a, 2)
		if len(classes) != impl.MaxClasses || !slices.Equal(invariantsOf(t, cube, a, 2), []int64{2, 2, 2, 2, 2, 2}) {
			t.Errorf("ClassList(cube, %d, 2) has %d classes", m, len(classes))
		}
		keys := map[string]bool{}
		for _, f := range classes {
			keys[valuesKey(leastCocycle(t, cube, a, f).Values)] = true
		}
		if len(keys) != impl.MaxClasses {
			t.Errorf("ClassList(cube, %d, 2) has %d different classes", m, len(keys))
		}
	}
	for _, name := range allNames {
		g := named(t, name)
		for m := int64(2); m <= 12; m++ {
			for _, a := range modulesOf(t, g, m) {
				for n := range int64(4) {
					if len(cellsByHand(g, n)) > 49 {
						continue
					}
					order := orderOfCohomology(t, g, a, n)
					classes, code := impl.ClassList(g, a, n)
					if order <= 64 && (code != impl.ErrNone || int64(len(classes)) != order) || order > 64 && !failed(all(classes, code), impl.ErrLimit) {
						t.Errorf("ClassList(%s, %v, %d) of %d = %v, %d", name, a, n, order, classes, code)
					}
				}
			}
		}
	}
}

// TestDifferentDegrees: ErrRange is asked before ErrLimit and ErrState.
func TestDifferentDegrees(t *testing.T) {
	for name, g := range sampleGroups(t) {
		for _, a := range modulesOf(t, g, 7) {
			for n := range int64(4) {
				for p := range int64(4) {
					f, h := sampleCochain(g, a, n, 1), sampleCochain(g, a, p, 2)
					if n != p && !failed(all(impl.AreCohomologous(g, a, f, h)), impl.ErrRange) {
						t.Errorf("AreCohomologous(%s, %v) of the degrees %d and %d", name, a, n, p)
					}
				}
			}
		}
	}
	// The numbers of Values are the same.
	c2, a := named(t, "c2"), impl.Module{M: 2, Units: []int64{1, 1}}
	if !failed(all(impl.AreCohomologous(c2, a, impl.Cochain{Degree: 1, Values: []int64{0}}, impl.Cochain{Degree: 3, Values: []int64{0}})), impl.ErrRange) {
		t.Error("AreCohomologous of the degrees 1 and 3 of c2")
	}
}

// TestInvalidBeforeOthers asks each function for what is no cochain of c3 or no module of c4, beside
// cochains of other degrees, or of too many values, or no cocycles: ErrInvalid is asked first.
func TestInvalidBeforeOthers(t *testing.T) {
	c3, a := named(t, "c3"), impl.Module{M: 4, Units: []int64{1, 1, 1}}
	zero := impl.Cochain{Degree: 3, Values: make([]int64, 8)}
	for name, f := range notCochains() {
		checkCode(t, name, impl.ErrInvalid, classCalls(c3, a, f, zero))
		checkCode(t, name, impl.ErrInvalid, classCalls(c3, a, f, sampleCochain(c3, a, 2, 1)))
	}
	c4 := named(t, "c4")
	for name, b := range notModules() {
		f := impl.Cochain{Values: []int64{0}}
		checkCode(t, name, impl.ErrInvalid, classCalls(c4, b, f, f))
		checkCode(t, name, impl.ErrInvalid, classCalls(c4, b, f, impl.Cochain{Degree: -1}))
		for _, n := range []int64{0, 1, 3, -1, 4, math.MinInt64, math.MaxInt64} {
			checkCode(t, name, impl.ErrInvalid, degreeCalls(c4, b, n))
		}
	}
	// Cochains of too many values are cochains of the group all the same.
	c5, trivial := named(t, "c5"), impl.Module{M: 2, Units: []int64{1, 1, 1, 1, 1}}
	great := impl.Cochain{Degree: 3, Values: make([]int64, 64)}
	checkCode(t, "64 values", impl.ErrLimit, classCalls(c5, trivial, great, great))
	great.Values[63] = 2
	checkCode(t, "64 values", impl.ErrInvalid, classCalls(c5, trivial, great, impl.Cochain{Values: []int64{0}}))
}

// TestInvalidGroupsOfCohomology asks each function for what is no group.
func TestInvalidGroupsOfCohomology(t *testing.T) {
	for name, g := range notGroups() {
		a := impl.Module{M: 2, Units: slices.Repeat([]int64{1}, len(g.Table))}
		for _, n := range append(badDegrees(), 0, 1, 2, 3) {
			checkCode(t, name, impl.ErrInvalid, degreeCalls(g, a, n))
			f := impl.Cochain{Degree: n, Values: []int64{0}}
			if n >= 0 && n <= 3 {
				f.Values = make([]int64, len(lists(n, max(int64(len(g.Table))-1, 0))))
			}
			checkCode(t, name, impl.ErrInvalid, classCalls(g, a, f, f))
		}
	}
}

// TestCohomologySharesNoMemory overwrites results: neither arguments, nor other results change.
func TestCohomologySharesNoMemory(t *testing.T) {
	g, a := named(t, "klein"), impl.Module{M: 4, Units: []int64{1, 1, 3, 3}}
	f := sampleBoundary(t, g, a, 2, 5)
	values := func(f impl.Cochain, code int64) [][]int64 { return [][]int64{f.Values} }
	numbers := func(list []int64, code int64) [][]int64 { return [][]int64{list} }
	calls := map[string]func() [][]int64{
		"CocycleSteps":  func() [][]int64 { return numbers(impl.CocycleSteps(g, a, 2)) },
		"BoundingSteps": func() [][]int64 { return numbers(impl.BoundingSteps(g, a, 2)) },
		"InvariantsOf":  func() [][]int64 { return numbers(impl.InvariantsOf(g, a, 2)) },
		"LeastCocycle":  func() [][]int64 { return values(impl.LeastCocycle(g, a, f)) },
		"LeastBounded":  func() [][]int64 { return values(impl.LeastBounded(g, a, f)) },
		"ClassList": func() [][]int64 {
			classes, _ := impl.ClassList(g, a, 2)
			var result [][]int64
			for _, class := range classes {
				result = append(result, class.Values)
			}
			return result
		},
	}
	checkSharing(t, calls, func() string { return fmt.Sprint(g, a, f) })
}

func TestCohomologyArgumentsAreKept(t *testing.T) {
	for _, name := range allNames {
		g := spareGroup(named(t, name))
		count := len(g.Table)
		for _, plain := range modulesOf(t, named(t, name), 8) {
			a := spareModule(plain)
			for n := range int64(4) {
				f, h := spareCochain(sampleCochain(g, plain, n, 2)), spareCochain(sampleBoundary(t, g, plain, n, 3))
				cells := len(f.Values)
				told := func() string {
					return wholeGroup(g) + fmt.Sprint(a, a.Units[:count+3], f, f.Values[:cells+3], h, h.Values[:cells+3])
				}
				before := told()
				degreeCalls(g, a, n)
				classCalls(g, a, f, h)
				classCalls(g, a, h, f)
				if told() != before {
					t.Errorf("%s: an argument has changed", name)
				}
			}
		}
	}
}
