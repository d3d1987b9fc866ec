package tests

import (
	"fmt"
	"math"
	"runtime"
	"slices"
	"testing"
	"time"

	"loop.example/g01363/impl"
)

// TestInvalidGroupsOfCrossedMaps asks each function for what is no group, beside lists and numbers that
// are as told and others.
func TestInvalidGroupsOfCrossedMaps(t *testing.T) {
	for name, g := range notGroups() {
		a := impl.Module{M: 2, Units: slices.Repeat([]int64{1}, len(g.Table))}
		checkInvalidCrossed(t, name, g, a)
	}
}

// TestInvalidModulesOfCrossedMaps asks each function for what is no module of c4. M = 1 has none.
func TestInvalidModulesOfCrossedMaps(t *testing.T) {
	c4 := named(t, "c4")
	for name, a := range notModules() {
		checkInvalidCrossed(t, name, c4, a)
	}
	for _, m := range append(badModuli(), 1) {
		checkInvalidCrossed(t, fmt.Sprint("M = ", m), c4, impl.Module{M: m, Units: []int64{1, 1, 1, 1}})
		checkInvalidCrossed(t, fmt.Sprint("c1, M = ", m), named(t, "c1"), impl.Module{M: m, Units: []int64{1}})
	}
}

// checkInvalidCrossed: each function returns ErrInvalid, whatever the other arguments are.
func checkInvalidCrossed(t *testing.T, what string, g impl.Group, a impl.Module) {
	t.Helper()
	n := len(g.Table)
	checkCode(t, what, impl.ErrInvalid, mapCalls(g, a))
	for _, list := range [][]int64{nil, {0}, {-1}, {0, 1, 1, 1}, make([]int64, n), slices.Repeat([]int64{math.MaxInt64}, n)} {
		checkCode(t, what, impl.ErrInvalid, crossedCalls(g, a, list))
		for _, m := range []int64{0, 1, -1, 12, math.MinInt64, math.MaxInt64} {
			checkCode(t, what, impl.ErrInvalid, complementCalls(g, a, list, m))
		}
	}
	for _, m := range []int64{0, 1, -1, 12, 96, math.MinInt64, math.MaxInt64} {
		checkCode(t, what, impl.ErrInvalid, pairCalls(g, a, m, 0))
		checkCode(t, what, impl.ErrInvalid, pairCalls(g, a, 0, m))
		if results := all(impl.PrincipalMap(g, a, m)); !failed(results, impl.ErrInvalid) {
			t.Errorf("PrincipalMap of %s: %v", what, results)
		}
	}
}

// TestListsOutOfRange: lists with too few or too many numbers, and those with a number that is none of
// 0..M - 1, are not as told, be the rest a crossed map or not.
func TestListsOutOfRange(t *testing.T) {
	for name, g := range sampleGroups(t) {
		n := len(g.Table)
		for _, a := range modulesOf(t, g, 12) {
			for _, length := range []int{0, n - 1, n + 1, 2 * n, 100000} {
				checkCode(t, fmt.Sprint(name, ", ", length, " numbers"), impl.ErrRange, crossedCalls(g, a, make([]int64, length)))
			}
			for i, m := range badNumbers(a.M) {
				list := make([]int64, n)
				list[i%n] = m
				checkCode(t, fmt.Sprint(name, ", ", list), impl.ErrRange, crossedCalls(g, a, list))
				list[(i+n/2)%n] = m
				list[(i+1)%n] = 1
				list[i%n] = m
				checkCode(t, fmt.Sprint(name, ", ", list), impl.ErrRange, crossedCalls(g, a, list))
			}
		}
		checkCode(t, name, impl.ErrRange, crossedCalls(g, impl.Module{M: 2, Units: slices.Repeat([]int64{1}, n)}, nil))
	}
}

// TestNumbersOutOfRange: a number of PrincipalMap is less than M, and no less than 0.
func TestNumbersOutOfRange(t *testing.T) {
	eachSomeModule(t, func(name string, g impl.Group, a impl.Module) {
		for _, m := range badNumbers(a.M) {
			if results := all(impl.PrincipalMap(g, a, m)); !failed(results, impl.ErrRange) {
				t.Errorf("PrincipalMap(%s, %v, %d): %v", name, a, m, results)
			}
		}
	})
}

// TestPairsOutOfRange: a pair is less than N M, and no less than 0.
func TestPairsOutOfRange(t *testing.T) {
	eachSomeModule(t, func(name string, g impl.Group, a impl.Module) {
		n := int64(len(g.Table))
		for i, p := range badNumbers(n * a.M) {
			what := fmt.Sprint(name, ", ", a, ", ", p)
			checkCode(t, what, impl.ErrRange, pairCalls(g, a, p, 0))
			checkCode(t, what, impl.ErrRange, pairCalls(g, a, p, n*a.M-1))
			checkCode(t, what, impl.ErrRange, pairCalls(g, a, p, -1))
			pairs := complementOf(t, g, a, make([]int64, n))
			pairs[int64(i)%n] = p
			for _, m := range []int64{0, a.M - 1, a.M, -1} {
				checkCode(t, what, impl.ErrRange, complementCalls(g, a, pairs, m))
				checkCode(t, what, impl.ErrRange, complementCalls(g, a, []int64{p}, m))
				checkCode(t, what, impl.ErrRange, complementCalls(g, a, append(slices.Repeat([]int64{0}, 100), p), m))
			}
		}
	})
}

// TestRangeBeforeState: a number that is none is ErrRange also where the list of pairs is no
// complement, and a list of pairs with a number that is as told is ErrState.
func TestRangeBeforeState(t *testing.T) {
	eachSomeModule(t, func(name string, g impl.Group, a impl.Module) {
		pairs := complementOf(t, g, a, make([]int64, len(g.Table)))
		for _, list := range [][]int64{pairs, nil, {1}, slices.Repeat([]int64{0}, 100)} {
			for _, m := range badNumbers(a.M) {
				if results := all(impl.ConjugateComplement(g, a, list, m)); !failed(results, impl.ErrRange) {
					t.Errorf("ConjugateComplement(%s, %v, %v, %d): %v", name, a, list, m, results)
				}
			}
		}
		checkNotComplement(t, g, a, nil)
		checkNotComplement(t, g, a, []int64{1})
	})
}

// TestAsToldButNone: lists that are as told, but no crossed maps or complements.
func TestAsToldButNone(t *testing.T) {
	c2, c4 := named(t, "c2"), named(t, "c4")
	plain, sign := impl.Module{M: 4, Units: []int64{1, 1}}, impl.Module{M: 4, Units: []int64{1, 3}}
	for _, list := range [][]int64{{0, 1}, {0, 3}, {1, 0}, {2, 2}} {
		if isCrossed(t, c2, plain, list) {
			t.Errorf("IsCrossed(c2, %v, %v) is true", plain, list)
		}
		checkNotCrossed(t, c2, plain, list)
	}
	if isCrossed(t, c2, sign, []int64{1, 1}) {
		t.Errorf("IsCrossed(c2, %v, 1 1) is true", sign)
	}
	checkNotCrossed(t, c2, sign, []int64{1, 1})
	five := impl.Module{M: 5, Units: []int64{1, 2, 4, 3}}
	if !isCrossed(t, c4, five, []int64{0, 1, 3, 2}) || isCrossed(t, c4, five, []int64{0, 1, 2, 3}) {
		t.Error("IsCrossed(c4, 5:1,2,4,3) tells other maps")
	}
	checkNotCrossed(t, c4, five, []int64{0, 1, 2, 3})
	if isComplement(t, c2, plain, []int64{0, 5}) || isComplement(t, c2, sign, []int64{1, 5}) || !isComplement(t, c2, sign, []int64{0, 5}) {
		t.Error("IsComplement(c2) tells other complements")
	}
	checkNotComplement(t, c2, plain, []int64{0, 5})
	checkNotComplement(t, c2, sign, []int64{1, 5})
}

// TestCrossedSharesNoMemory overwrites results: neither arguments, nor other results change.
func TestCrossedSharesNoMemory(t *testing.T) {
	g, a := named(t, "klein"), impl.Module{M: 12, Units: []int64{1, 5, 7, 11}}
	zero := make([]int64, 4)
	list := crossedMaps(t, g, a)[5]
	pairs, none := complementOf(t, g, a, list), complementOf(t, g, a, zero)
	numbers := func(list []int64, code int64) [][]int64 { return [][]int64{list} }
	maps := func(lists [][]int64, code int64) [][]int64 { return lists }
	calls := map[string]func() [][]int64{
		"CrossedMaps":             func() [][]int64 { return maps(impl.CrossedMaps(g, a)) },
		"PrincipalMaps":           func() [][]int64 { return maps(impl.PrincipalMaps(g, a)) },
		"CrossedClasses":          func() [][]int64 { return maps(impl.CrossedClasses(g, a)) },
		"PrincipalMap":            func() [][]int64 { return numbers(impl.PrincipalMap(g, a, 5)) },
		"ClassOfCrossed":          func() [][]int64 { return numbers(impl.ClassOfCrossed(g, a, list)) },
		"ClassOfCrossed, least":   func() [][]int64 { return numbers(impl.ClassOfCrossed(g, a, zero)) },
		"KernelOfCrossed":         func() [][]int64 { return numbers(impl.KernelOfCrossed(g, a, list)) },
		"ComplementOf":            func() [][]int64 { return numbers(impl.ComplementOf(g, a, list)) },
		"ConjugateComplement":     func() [][]int64 { return numbers(impl.ConjugateComplement(g, a, pairs, 5)) },
		"ConjugateComplement, 0":  func() [][]int64 { return numbers(impl.ConjugateComplement(g, a, pairs, 0)) },
		"ConjugateComplement, of": func() [][]int64 { return numbers(impl.ConjugateComplement(g, a, none, 0)) },
	}
	checkSharing(t, calls, func() string { return fmt.Sprint(g, a, zero, list, pairs, none) })
}

func TestCrossedArgumentsAreKept(t *testing.T) {
	for _, name := range allNames {
		g := spareGroup(named(t, name))
		count := len(g.Table)
		for _, plain := range modulesOf(t, named(t, name), 8) {
			a := spareModule(plain)
			maps := crossedMaps(t, g, plain)
			list := spare(maps[len(maps)-1])
			pairs := spare(complementOf(t, g, plain, list))
			bad := spare(slices.Repeat([]int64{7}, count))
			told := func() string {
				return wholeGroup(g) + fmt.Sprint(a, a.Units[:count+3], list[:count+3], pairs[:count+3], bad[:count+3])
			}
			before := told()
			mapCalls(g, a)
			crossedCalls(g, a, list)
			crossedCalls(g, a, bad)
			pairCalls(g, a, 7, 8*int64(count)-1)
			complementCalls(g, a, pairs, 7)
			complementCalls(g, a, bad, 7)
			_, _ = impl.PrincipalMap(g, a, 7)
			if told() != before {
				t.Errorf("%s: an argument has changed", name)
			}
		}
	}
}

// checkNoGoroutineLeft: some calls leave no more goroutines than there are before. One that has done its
// part may take a moment to end.
func checkNoGoroutineLeft(t *testing.T, calls func()) {
	t.Helper()
	before := runtime.NumGoroutine()
	calls()
	for range 500 {
		if runtime.NumGoroutine() <= before {
			return
		}
		time.Sleep(10 * time.Millisecond)
	}
	t.Errorf("%d goroutines, %d before", runtime.NumGoroutine(), before)
}

// TestNoGoroutineIsLeft: after many calls, those with errors among them, there are no more goroutines
// than before.
func TestNoGoroutineIsLeft(t *testing.T) {
	g := named(t, "cube")
	checkNoGoroutineLeft(t, func() {
		for _, a := range modulesOf(t, g, 4) {
			mapCalls(g, a)
			crossedCalls(g, a, make([]int64, 8))
			mapCalls(g, impl.Module{M: 13, Units: a.Units})
		}
	})
}

// checkAgain reports a call that has not the same results, told as a text, each time, also where such calls go
// on side by side.
func checkAgain(t *testing.T, call func() string) {
	t.Helper()
	told := make([]string, 8)
	done := make(chan bool)
	for i := range told {
		go func() {
			told[i] = call()
			done <- true
		}()
	}
	for range told {
		<-done
	}
	for i := range told {
		if told[i] != told[0] {
			t.Errorf("call %d has other results", i)
		}
	}
}

// TestCrossedAgain: the same arguments have the same results, also where calls go on side by side.
func TestCrossedAgain(t *testing.T) {
	g := named(t, "dihedral")
	modules := modulesOf(t, g, 12)
	checkAgain(t, func() string {
		told := ""
		for _, a := range modules {
			told += fmt.Sprint(mapCalls(g, a))
		}
		return told
	})
}
