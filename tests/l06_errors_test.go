package tests

import (
	"fmt"
	"math"
	"slices"
	"testing"

	"loop.example/g01363/impl"
)

// checkInvalidExtensions: each function that asks for a module returns ErrInvalid, whatever the cochain is.
func checkInvalidExtensions(t *testing.T, what string, g impl.Group, a impl.Module) {
	t.Helper()
	cells := max(len(g.Table)-1, 0)
	for _, f := range []impl.Cochain{
		{}, {Values: []int64{0}}, {Degree: 1, Values: make([]int64, cells)}, {Degree: 2, Values: make([]int64, cells*cells)},
		{Degree: 2, Values: slices.Repeat([]int64{math.MaxInt64}, cells*cells)}, {Degree: 2, Values: []int64{1}},
		{Degree: 3}, {Degree: math.MinInt64}, {Degree: math.MaxInt64},
	} {
		checkCode(t, what, impl.ErrInvalid, extensionCalls(g, a, f))
		checkCode(t, what, impl.ErrInvalid, groupCalls(g, a, f))
	}
	checkCode(t, what, impl.ErrInvalid, countCalls(g, a))
}

// TestInvalidGroupsOfExtensions asks each function for what is no group.
func TestInvalidGroupsOfExtensions(t *testing.T) {
	for name, g := range notGroups() {
		for _, m := range []int64{2, 12, 1, 0, math.MaxInt64} {
			checkInvalidExtensions(t, name, g, impl.Module{M: m, Units: slices.Repeat([]int64{1}, len(g.Table))})
		}
		for _, z := range []int64{0, 1, -1, 8, 9, math.MinInt64, math.MaxInt64} {
			checkCode(t, name, impl.ErrInvalid, choiceCalls(g, z))
		}
	}
}

// TestInvalidModulesOfExtensions asks each function for what is no module of c4. M = 1 has none.
func TestInvalidModulesOfExtensions(t *testing.T) {
	c4 := named(t, "c4")
	for name, a := range notModules() {
		checkInvalidExtensions(t, name, c4, a)
	}
	for _, m := range append(badModuli(), 1) {
		checkInvalidExtensions(t, fmt.Sprint("M = ", m), c4, impl.Module{M: m, Units: []int64{1, 1, 1, 1}})
		checkInvalidExtensions(t, fmt.Sprint("c1, M = ", m), named(t, "c1"), impl.Module{M: m, Units: []int64{1}})
	}
}

// TestInvalidCochainsOfExtensions asks each function for what is no cochain. ErrInvalid is asked before
// ErrRange, which other degrees have, and before ErrLimit.
func TestInvalidCochainsOfExtensions(t *testing.T) {
	c3, a := named(t, "c3"), impl.Module{M: 4, Units: []int64{1, 1, 1}}
	for name, f := range notCochains() {
		checkCode(t, name, impl.ErrInvalid, extensionCalls(c3, a, f))
		checkCode(t, name, impl.ErrInvalid, groupCalls(c3, a, f))
	}
	cube, twelve := named(t, "cube"), impl.Module{M: 12, Units: slices.Repeat([]int64{1}, 8)}
	for _, f := range []impl.Cochain{
		{}, {Degree: 2}, {Degree: 2, Values: slices.Repeat([]int64{12}, 49)}, {Degree: 3, Values: make([]int64, 342)},
		{Degree: 1, Values: slices.Repeat([]int64{-1}, 7)}, {Degree: 4, Values: make([]int64, 2401)},
	} {
		checkCode(t, fmt.Sprint("cube, ", f.Degree), impl.ErrInvalid, extensionCalls(cube, twelve, f))
		checkCode(t, fmt.Sprint("cube, ", f.Degree), impl.ErrInvalid, groupCalls(cube, twelve, f))
	}
}

// TestOtherDegrees: cochains of the degrees 0, 1 and 3 are not as told, be they cocycles or not, and be the
// extension too great or not.
func TestOtherDegrees(t *testing.T) {
	eachSomeModule(t, func(name string, g impl.Group, a impl.Module) {
		for _, n := range []int64{0, 1, 3} {
			zero := impl.Cochain{Degree: n, Values: make([]int64, len(cellsByHand(g, n)))}
			for _, f := range []impl.Cochain{zero, sampleCochain(g, a, n, 1)} {
				what := fmt.Sprint(name, ", ", a, ", the degree ", n)
				checkCode(t, what, impl.ErrRange, extensionCalls(g, a, f))
				checkCode(t, what, impl.ErrRange, groupCalls(g, a, f))
			}
		}
	})
}

// codeOf returns the code among the results of a call.
func codeOf(results []any) int64 { return results[len(results)-1].(int64) }

// TestExtensionLimits: 64 elements are accepted, also for the group of ExtensionGroup 8, and more are not.
func TestExtensionLimits(t *testing.T) {
	reached := map[int64]bool{}
	eachSomeModule(t, func(name string, g impl.Group, a impl.Module) {
		count := int64(len(g.Table)) * a.M
		reached[count] = true
		what := fmt.Sprint(name, ", ", a)
		zero := impl.Cochain{Degree: 2, Values: make([]int64, len(cellsByHand(g, 2)))}
		if count > 64 {
			checkCode(t, what, impl.ErrLimit, extensionCalls(g, a, zero))
		} else {
			for call, results := range extensionCalls(g, a, zero) {
				if codeOf(results) != impl.ErrNone {
					t.Errorf("%s of %s: %v", call, what, results)
				}
			}
		}
		if count > 8 {
			checkCode(t, what, impl.ErrLimit, groupCalls(g, a, zero))
			checkCode(t, what, impl.ErrLimit, countCalls(g, a))
		} else if len(extensionGroup(t, g, a, zero).Table) != int(count) || countExtensionGroups(t, g, a) < 1 {
			t.Errorf("ExtensionGroup(%s)", what)
		}
	})
	for _, count := range []int64{8, 9, 64, 66} {
		if !reached[count] {
			t.Errorf("no extension has %d elements", count)
		}
	}
}

// TestNoFactorSets: a cochain of the degree 2 that is no cocycle is ErrState, but ErrLimit where the
// extension is too great.
func TestNoFactorSets(t *testing.T) {
	seen := map[int64]bool{}
	eachSomeModule(t, func(name string, g impl.Group, a impl.Module) {
		f, found := notFactorSet(t, g, a)
		if !found {
			return
		}
		what := fmt.Sprint(name, ", ", a, ", ", f)
		code, groupCode := int64(impl.ErrState), int64(impl.ErrState)
		if count := int64(len(g.Table)) * a.M; count > 64 {
			code, groupCode = impl.ErrLimit, impl.ErrLimit
		} else if count > 8 {
			groupCode = impl.ErrLimit
		}
		seen[10*code+groupCode] = true
		checkCode(t, what, code, extensionCalls(g, a, f))
		checkCode(t, what, groupCode, groupCalls(g, a, f))
	})
	if len(seen) != 3 {
		t.Errorf("the codes were %v", seen)
	}
	c2, three := named(t, "c2"), impl.Module{M: 3, Units: []int64{1, 2}}
	f := impl.Cochain{Degree: 2, Values: []int64{1}}
	checkCode(t, "c2, 3:1,2, 2:1", impl.ErrState, extensionCalls(c2, three, f))
	checkCode(t, "c2, 3:1,2, 2:1", impl.ErrState, groupCalls(c2, three, f))
}

// TestExtensionsShareNoMemory overwrites results: neither arguments, nor other results change.
func TestExtensionsShareNoMemory(t *testing.T) {
	g, a := named(t, "klein"), impl.Module{M: 8, Units: []int64{1, 3, 5, 7}}
	small := impl.Module{M: 2, Units: []int64{1, 1, 1, 1}}
	f, none := sampleBoundary(t, g, a, 2, 5), sampleBoundary(t, g, small, 2, 5)
	e := named(t, "dihedral")
	numbers := func(list []int64, code int64) [][]int64 { return [][]int64{list} }
	rows := func(lists [][]int64, code int64) [][]int64 { return lists }
	calls := map[string]func() [][]int64{
		"ExtensionTable":        func() [][]int64 { return rows(impl.ExtensionTable(g, a, f)) },
		"ExtensionGroup":        func() [][]int64 { r, _ := impl.ExtensionGroup(g, small, none); return r.Table },
		"FirstSection":          func() [][]int64 { return numbers(impl.FirstSection(g, a, f)) },
		"OrdersOfExtension":     func() [][]int64 { return numbers(impl.OrdersOfExtension(g, a, f)) },
		"CentreOfExtension":     func() [][]int64 { return numbers(impl.CentreOfExtension(g, a, f)) },
		"FactorSetOfChoice":     func() [][]int64 { r, _ := impl.FactorSetOfChoice(e, 2); return [][]int64{r.Values} },
		"ModuleOfChoice":        func() [][]int64 { r, b, _ := impl.ModuleOfChoice(e, 2); return append(r.Table, b.Units) },
		"ModuleOfChoice, whole": func() [][]int64 { r, b, _ := impl.ModuleOfChoice(named(t, "c8"), 3); return append(r.Table, b.Units) },
	}
	checkSharing(t, calls, func() string { return fmt.Sprint(g, a, f, small, none, e) })
}

func TestExtensionArgumentsAreKept(t *testing.T) {
	for _, name := range allNames {
		g := spareGroup(named(t, name))
		count := len(g.Table)
		for _, plain := range slices.Concat(modulesOf(t, named(t, name), 2), modulesOf(t, named(t, name), 8)) {
			a := spareModule(plain)
			f, h := spareCochain(sampleCochain(g, plain, 2, 2)), spareCochain(sampleBoundary(t, g, plain, 2, 3))
			cells := len(f.Values)
			told := func() string {
				return wholeGroup(g) + fmt.Sprint(a, a.Units[:count+3], f, f.Values[:cells+3], h, h.Values[:cells+3])
			}
			before := told()
			extensionCalls(g, a, f)
			extensionCalls(g, a, h)
			groupCalls(g, a, h)
			countCalls(g, a)
			choiceCalls(g, int64(count)-1)
			choiceCalls(g, 2)
			if told() != before {
				t.Errorf("%s: an argument has changed", name)
			}
		}
	}
}

// TestNoGoroutineOfCountingIsLeft: after many calls, those with errors among them, there are no more
// goroutines than before.
func TestNoGoroutineOfCountingIsLeft(t *testing.T) {
	g := named(t, "klein")
	checkNoGoroutineLeft(t, func() {
		for range 50 {
			for _, m := range []int64{1, 2, 3, 12} {
				countCalls(g, impl.Module{M: m, Units: []int64{1, 1, 1, 1}})
			}
		}
	})
}

// TestCountAgain: the same arguments have the same number, also where calls go on side by side.
func TestCountAgain(t *testing.T) {
	g, a := named(t, "klein"), impl.Module{M: 2, Units: []int64{1, 1, 1, 1}}
	counts := make([]int64, 8)
	done := make(chan bool)
	for i := range counts {
		go func() {
			for range 20 {
				count, _ := impl.CountExtensionGroups(g, a)
				counts[i] += count
			}
			done <- true
		}()
	}
	for range counts {
		<-done
	}
	for i, count := range counts {
		if count != 80 {
			t.Errorf("call %d counts %d", i, count)
		}
	}
}
