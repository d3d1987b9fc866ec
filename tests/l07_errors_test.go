package tests

import (
	"fmt"
	"math"
	"slices"
	"testing"

	"loop.example/g01363/impl"
)

// listCalls calls all functions of the chapter that ask for nothing but a group and a subgroup.
func listCalls(g impl.Group, h []int64) map[string][]any {
	return map[string][]any{
		"GroupOfSubgroup":   all(impl.GroupOfSubgroup(g, h)),
		"RepresentativesOf": all(impl.RepresentativesOf(g, h)),
		"IndexOf":           all(impl.IndexOf(g, h)),
	}
}

// elementCalls calls all functions of the chapter that ask for a subgroup and an element.
func elementCalls(g impl.Group, h []int64, x int64) map[string][]any {
	return map[string][]any{
		"ConjugateSubgroup": all(impl.ConjugateSubgroup(g, h, x)),
		"TransferElement":   all(impl.TransferElement(g, h, x)),
	}
}

// partCalls calls all functions of the chapter that ask for a module of the group.
func partCalls(g impl.Group, a impl.Module, h []int64, f impl.Cochain, c int64) map[string][]any {
	return map[string][]any{
		"ModuleOfSubgroup": all(impl.ModuleOfSubgroup(g, a, h)),
		"RestrictCochain":  all(impl.RestrictCochain(g, a, h, f)),
		"TransferCochain":  all(impl.TransferCochain(g, a, h, f)),
		"ConjugateCochain": all(impl.ConjugateCochain(g, a, h, f, c)),
	}
}

// behindCalls calls all functions of the chapter that ask for a cochain behind ErrState for the list.
func behindCalls(g impl.Group, a impl.Module, h []int64, f impl.Cochain, c int64) map[string][]any {
	return map[string][]any{
		"TransferCochain":  all(impl.TransferCochain(g, a, h, f)),
		"ConjugateCochain": all(impl.ConjugateCochain(g, a, h, f, c)),
	}
}

// inflateCalls calls InflateCochain.
func inflateCalls(g impl.Group, h []int64, a impl.Module, f impl.Cochain) map[string][]any {
	return map[string][]any{"InflateCochain": all(impl.InflateCochain(g, h, a, f))}
}

// farNumbers are numbers that are elements of some groups, or of none.
var farNumbers = []int64{0, 1, 7, -1, 8, 9, math.MinInt64, math.MaxInt64}

// someLists returns lists that are sets, subgroups and neither, in some groups or in all.
func someLists() [][]int64 {
	return [][]int64{nil, {}, {0}, {0, 1}, {1, 0}, {0, 0}, {-1}, {0, 8}, {0, 1, 2, 3, 4, 5, 6, 7}, {math.MinInt64}, {0, math.MaxInt64}, make([]int64, 1000)}
}

// someCochains returns cochains, and what is none, for groups of few elements.
func someCochains() []impl.Cochain {
	return []impl.Cochain{
		{}, {Values: []int64{0}}, {Values: []int64{-1}}, {Degree: 1}, {Degree: 1, Values: []int64{0}}, {Degree: 1, Values: []int64{0, 1, 0}},
		{Degree: 2}, {Degree: 2, Values: []int64{1}}, {Degree: 3, Values: []int64{math.MaxInt64}}, {Degree: 4},
		{Degree: -1}, {Degree: math.MinInt64, Values: []int64{0}}, {Degree: math.MaxInt64, Values: make([]int64, 1000)},
	}
}

// TestInvalidGroupsOfSubgroups asks each function for what is no group, whatever the other arguments are.
func TestInvalidGroupsOfSubgroups(t *testing.T) {
	for name, g := range notGroups() {
		a := impl.Module{M: 2, Units: slices.Repeat([]int64{1}, len(g.Table))}
		for _, h := range someLists() {
			what := fmt.Sprint(name, ", ", len(h), " elements")
			checkCode(t, what, impl.ErrInvalid, listCalls(g, h))
			for _, x := range farNumbers {
				checkCode(t, what, impl.ErrInvalid, elementCalls(g, h, x))
			}
			for i, f := range someCochains() {
				checkCode(t, what, impl.ErrInvalid, partCalls(g, a, h, f, farNumbers[i%len(farNumbers)]))
				checkCode(t, what, impl.ErrInvalid, inflateCalls(g, h, a, f))
			}
		}
	}
}

// checkInvalidPart: each function that asks for a module of the group returns ErrInvalid, whatever the
// other arguments are.
func checkInvalidPart(t *testing.T, what string, g impl.Group, a impl.Module) {
	t.Helper()
	for _, h := range someLists() {
		for i, f := range someCochains() {
			checkCode(t, what, impl.ErrInvalid, partCalls(g, a, h, f, farNumbers[i%len(farNumbers)]))
		}
	}
}

// TestInvalidModulesOfSubgroups asks each function for what is no module of c4, and for M = 1, of which
// there is none.
func TestInvalidModulesOfSubgroups(t *testing.T) {
	c4 := named(t, "c4")
	for name, a := range notModules() {
		checkInvalidPart(t, name, c4, a)
	}
	for _, m := range append(badModuli(), 1) {
		checkInvalidPart(t, fmt.Sprint("M = ", m), c4, impl.Module{M: m, Units: []int64{1, 1, 1, 1}})
		checkInvalidPart(t, fmt.Sprint("c1, M = ", m), named(t, "c1"), impl.Module{M: m, Units: []int64{1}})
	}
	// A module of the group of the subgroup is none of the group.
	checkInvalidPart(t, "units of two elements", c4, impl.Module{M: 5, Units: []int64{1, 4}})
}

// TestInvalidCochainsToRestrict: RestrictCochain asks for a cochain of the whole group before it asks for
// the list.
func TestInvalidCochainsToRestrict(t *testing.T) {
	c3, a := named(t, "c3"), impl.Module{M: 4, Units: []int64{1, 1, 1}}
	for name, f := range notCochains() {
		for _, h := range append(someLists(), []int64{0, 1, 2}) {
			if results := all(impl.RestrictCochain(c3, a, h, f)); !failed(results, impl.ErrInvalid) {
				t.Errorf("RestrictCochain(c3, %v, %s): %v", h, name, results)
			}
		}
	}
	// A cochain of the group of the subgroup is none of the group.
	c4, b := named(t, "c4"), impl.Module{M: 5, Units: []int64{1, 2, 4, 3}}
	if results := all(impl.RestrictCochain(c4, b, []int64{0, 2}, impl.Cochain{Degree: 1, Values: []int64{3}})); !failed(results, impl.ErrInvalid) {
		t.Errorf("RestrictCochain(c4, 0 2) of its cochain: %v", results)
	}
}

// TestInvalidCochainsOfSubgroups: TransferCochain and ConjugateCochain ask for a cochain of the group of the
// subgroup, TransferCochain before it asks for the Degree.
func TestInvalidCochainsOfSubgroups(t *testing.T) {
	c3, a := named(t, "c3"), impl.Module{M: 4, Units: []int64{1, 1, 1}}
	c6, b := named(t, "c6"), impl.Module{M: 4, Units: []int64{1, 3, 1, 3, 1, 3}}
	for name, f := range notCochains() {
		checkCode(t, name, impl.ErrInvalid, behindCalls(c3, a, []int64{0, 1, 2}, f, 2))
		checkCode(t, name, impl.ErrInvalid, behindCalls(c6, b, []int64{0, 2, 4}, f, 5))
	}
	eachSubgroup(t, func(name string, g impl.Group, h []int64) {
		a := modulesOf(t, g, 8)[0]
		for n := range int64(4) {
			f := sampleCochain(g, a, n, 1)
			// Those of the whole group are none of a smaller one, but for the degree 0.
			if n > 0 && len(h) < len(g.Table) {
				checkCode(t, fmt.Sprint(name, ", the degree ", n), impl.ErrInvalid, behindCalls(g, a, h, f, 0))
			}
		}
		for _, n := range badDegrees() {
			checkCode(t, fmt.Sprint(name, ", ", n), impl.ErrInvalid, behindCalls(g, a, h, impl.Cochain{Degree: n, Values: []int64{0}}, 0))
			checkCode(t, fmt.Sprint(name, ", ", n), impl.ErrInvalid, behindCalls(g, a, h, impl.Cochain{Degree: n}, 0))
		}
		for _, x := range badNumbers(8) {
			checkCode(t, fmt.Sprint(name, ", ", x), impl.ErrInvalid, behindCalls(g, a, h, impl.Cochain{Values: []int64{x}}, 0))
		}
	})
}

// TestDegreesOfTransfer: the degrees 0 and 1 are accepted, and 2 and 3 are not, be they cocycles or not.
func TestDegreesOfTransfer(t *testing.T) {
	eachSubgroup(t, func(name string, g impl.Group, h []int64) {
		for _, a := range firstAndLast(t, g, []int64{2, 12}) {
			part, b := partByHand(g, h), partModuleByHand(a, h)
			for n := range int64(4) {
				zero := impl.Cochain{Degree: n, Values: make([]int64, len(cellsByHand(part, n)))}
				for _, f := range []impl.Cochain{zero, sampleCochain(part, b, n, 3)} {
					results := all(impl.TransferCochain(g, a, h, f))
					if n > 1 && !failed(results, impl.ErrRange) || n <= 1 && codeOf(results) != impl.ErrNone {
						t.Errorf("TransferCochain(%s, %v, %v): %v", name, a, f, results)
					}
				}
			}
		}
	})
}

// TestListsThatAreNoSubgroups: lists that are no sets are ErrRange, and sets that are no subgroups ErrState,
// before the cochains of TransferCochain, ConjugateCochain and InflateCochain are asked for.
func TestListsThatAreNoSubgroups(t *testing.T) {
	for name, g := range sampleGroups(t) {
		n := int64(len(g.Table))
		a := modulesOf(t, g, 12)[0]
		f := sampleCochain(g, a, 2, 1)
		check := func(h []int64, code int64) {
			what := fmt.Sprint(name, ", ", h)
			checkCode(t, what, code, listCalls(g, h))
			for _, c := range []int64{0, n - 1} {
				checkCode(t, what, code, elementCalls(g, h, c))
				checkCode(t, what, code, partCalls(g, a, h, f, c))
			}
			for _, k := range someCochains() {
				checkCode(t, what, code, behindCalls(g, a, h, k, 0))
				checkCode(t, what, code, inflateCalls(g, h, a, k))
				checkCode(t, what, code, inflateCalls(g, h, impl.Module{M: 1}, k))
			}
		}
		for _, h := range append(notSets(n), []int64{0, math.MaxInt64}, []int64{math.MinInt64}) {
			check(h, impl.ErrRange)
		}
		for _, h := range sublists(n) {
			if !isSubgroupByHand(g, h) && (len(h) < 3 || len(h) > 5) {
				check(h, impl.ErrState)
			}
		}
	}
}

// TestElementsOutOfRange: c and x are elements; what is none is ErrRange, also beside a list that is no
// subgroup, a subgroup with a b other than b a, and a cochain that is none.
func TestElementsOutOfRange(t *testing.T) {
	for name, g := range sampleGroups(t) {
		n := int64(len(g.Table))
		a := modulesOf(t, g, 5)[0]
		for _, h := range append(subgroupsByHand(g), nil, []int64{n - 1}) {
			for _, x := range badNumbers(n) {
				what := fmt.Sprint(name, ", ", h, ", ", x)
				checkCode(t, what, impl.ErrRange, elementCalls(g, h, x))
				for _, f := range someCochains() {
					if results := all(impl.ConjugateCochain(g, a, h, f, x)); !failed(results, impl.ErrRange) {
						t.Errorf("ConjugateCochain(%s): %v", what, results)
					}
				}
			}
		}
		for _, h := range subgroupsByHand(g) {
			f := sampleCochain(partByHand(g, h), partModuleByHand(a, h), 1, 2)
			for _, c := range []int64{0, n - 1} {
				conjugateSubgroup(t, g, h, c)
				conjugateCochain(t, g, a, h, f, c)
				if isAbelianByHand(g, h) {
					transferElement(t, g, h, c)
				}
			}
		}
	}
}

// TestSubgroupsThatAreNotNormal: InflateCochain returns ErrState, whatever the module and the cochain are.
func TestSubgroupsThatAreNotNormal(t *testing.T) {
	none := 0
	eachSubgroup(t, func(name string, g impl.Group, h []int64) {
		if isNormalByHand(g, h) {
			return
		}
		none++
		for _, a := range []impl.Module{{}, {M: 1, Units: []int64{1, 1}}, {M: 3, Units: []int64{1, 1, 1}}, modulesOf(t, g, 3)[0]} {
			for _, f := range someCochains() {
				checkCode(t, name, impl.ErrState, inflateCalls(g, h, a, f))
			}
		}
	})
	// Three of s3 and four of dihedral, and those of the renumbered groups.
	if none != 14 {
		t.Errorf("%d subgroups are not normal", none)
	}
}

// TestInvalidInflations: InflateCochain asks for a module and a cochain of the quotient.
func TestInvalidInflations(t *testing.T) {
	c4, klein := named(t, "c4"), named(t, "klein")
	good := impl.Cochain{Values: []int64{0}}
	for name, a := range notModules() {
		checkCode(t, name, impl.ErrInvalid, inflateCalls(c4, []int64{0}, a, good))
		checkCode(t, name, impl.ErrInvalid, inflateCalls(c4, []int64{0, 2}, a, good))
	}
	for _, m := range append(badModuli(), 1) {
		checkCode(t, fmt.Sprint("M = ", m), impl.ErrInvalid, inflateCalls(klein, []int64{0, 3}, impl.Module{M: m, Units: []int64{1, 1}}, good))
		checkCode(t, fmt.Sprint("M = ", m), impl.ErrInvalid, inflateCalls(klein, []int64{0, 1, 2, 3}, impl.Module{M: m, Units: []int64{1}}, good))
	}
	c6, a := named(t, "c6"), impl.Module{M: 4, Units: []int64{1, 1, 1}}
	for name, f := range notCochains() {
		checkCode(t, name, impl.ErrInvalid, inflateCalls(c6, []int64{0, 3}, a, f))
	}
	eachNormal(t, func(name string, g impl.Group, h []int64, quotient impl.Group, numbers []int64) {
		if len(h) == 1 {
			return
		}
		// The module and the cochains of the whole group are none of a smaller quotient.
		whole, own := modulesOf(t, g, 7)[0], modulesOf(t, quotient, 7)[0]
		checkCode(t, name, impl.ErrInvalid, inflateCalls(g, h, whole, good))
		for n := int64(1); n < 4; n++ {
			checkCode(t, name, impl.ErrInvalid, inflateCalls(g, h, own, sampleCochain(g, whole, n, 1)))
		}
	})
}

// TestSubgroupsShareNoMemory overwrites results: neither arguments, nor other results change.
func TestSubgroupsShareNoMemory(t *testing.T) {
	g, h := named(t, "dihedral"), []int64{0, 2, 4, 6}
	a := modulesOf(t, g, 8)[7]
	whole := []int64{0, 1, 2, 3, 4, 5, 6, 7}
	f, k, one := sampleCochain(g, a, 2, 5), sampleCochain(g, partModuleByHand(a, h), 0, 5), sampleCochain(g, a, 1, 5)
	quotient, b := named(t, "c2"), impl.Module{M: 8, Units: []int64{1, 3}}
	small := impl.Cochain{Degree: 2, Values: []int64{5}}
	numbers := func(list []int64, code int64) [][]int64 { return [][]int64{list} }
	values := func(f impl.Cochain, code int64) [][]int64 { return [][]int64{f.Values} }
	both := func(b impl.Module, f impl.Cochain, code int64) [][]int64 { return [][]int64{b.Units, f.Values} }
	calls := map[string]func() [][]int64{
		"GroupOfSubgroup":          func() [][]int64 { r, _ := impl.GroupOfSubgroup(g, h); return r.Table },
		"GroupOfSubgroup, whole":   func() [][]int64 { r, _ := impl.GroupOfSubgroup(g, whole); return r.Table },
		"ModuleOfSubgroup":         func() [][]int64 { r, _ := impl.ModuleOfSubgroup(g, a, h); return [][]int64{r.Units} },
		"ModuleOfSubgroup, whole":  func() [][]int64 { r, _ := impl.ModuleOfSubgroup(g, a, whole); return [][]int64{r.Units} },
		"RestrictCochain":          func() [][]int64 { return values(impl.RestrictCochain(g, a, h, f)) },
		"RestrictCochain, whole":   func() [][]int64 { return values(impl.RestrictCochain(g, a, whole, f)) },
		"RepresentativesOf":        func() [][]int64 { return numbers(impl.RepresentativesOf(g, h)) },
		"RepresentativesOf, 0":     func() [][]int64 { return numbers(impl.RepresentativesOf(g, h[:1])) },
		"TransferCochain":          func() [][]int64 { return values(impl.TransferCochain(g, a, h, k)) },
		"TransferCochain, whole":   func() [][]int64 { return values(impl.TransferCochain(g, a, whole, one)) },
		"InflateCochain":           func() [][]int64 { return both(impl.InflateCochain(g, h, b, small)) },
		"InflateCochain, 0":        func() [][]int64 { return both(impl.InflateCochain(g, h[:1], a, f)) },
		"ConjugateSubgroup":        func() [][]int64 { return numbers(impl.ConjugateSubgroup(g, h, 3)) },
		"ConjugateSubgroup, 0":     func() [][]int64 { return numbers(impl.ConjugateSubgroup(g, whole, 0)) },
		"ConjugateCochain":         func() [][]int64 { return values(impl.ConjugateCochain(g, a, h, k, 1)) },
		"ConjugateCochain, whole":  func() [][]int64 { return values(impl.ConjugateCochain(g, a, whole, f, 0)) },
		"ConjugateCochain, by one": func() [][]int64 { return values(impl.ConjugateCochain(g, a, whole, one, 5)) },
	}
	checkSharing(t, calls, func() string { return fmt.Sprint(g, h, a, whole, f, k, one, quotient, b, small) })
}

func TestSubgroupArgumentsAreKept(t *testing.T) {
	for _, name := range allNames {
		g := spareGroup(named(t, name))
		count := len(g.Table)
		for _, plain := range firstAndLast(t, named(t, name), []int64{8}) {
			a := spareModule(plain)
			for _, list := range subgroupsByHand(named(t, name)) {
				h := spare(list)
				part := partByHand(named(t, name), list)
				f, k := spareCochain(sampleCochain(g, plain, 2, 2)), spareCochain(sampleCochain(part, plain, 1, 3))
				told := func() string {
					return wholeGroup(g) + fmt.Sprint(a, a.Units[:count+3], h, h[:len(h)+3], f, f.Values[:len(f.Values)+3], k, k.Values[:len(k.Values)+3])
				}
				before := told()
				listCalls(g, h)
				elementCalls(g, h, int64(count)-1)
				partCalls(g, a, h, f, int64(count)-1)
				partCalls(g, a, h, k, int64(count)-1)
				inflateCalls(g, h, a, f)
				if told() != before {
					t.Errorf("%s, %v: an argument has changed", name, list)
				}
			}
			h, f := spare([]int64{0}), spareCochain(sampleCochain(g, plain, 2, 2))
			before := wholeGroup(g) + fmt.Sprint(a, a.Units[:count+3], h[:4], f.Values[:len(f.Values)+3])
			inflateCalls(g, h, a, f)
			if wholeGroup(g)+fmt.Sprint(a, a.Units[:count+3], h[:4], f.Values[:len(f.Values)+3]) != before {
				t.Errorf("%s: InflateCochain changes an argument", name)
			}
		}
	}
}

// TestNoGoroutineOfSubgroupsIsLeft: after many calls, those with errors among them, there are no more
// goroutines than before.
func TestNoGoroutineOfSubgroupsIsLeft(t *testing.T) {
	g := named(t, "dihedral")
	checkNoGoroutineLeft(t, func() {
		for _, a := range modulesOf(t, g, 8) {
			for _, h := range append(subgroupsByHand(g), nil, []int64{1}, []int64{0, 9}) {
				listCalls(g, h)
				elementCalls(g, h, 5)
				partCalls(g, a, h, impl.Cochain{Values: []int64{3}}, 5)
				inflateCalls(g, h, a, impl.Cochain{Values: []int64{3}})
			}
		}
	})
}

// TestSubgroupsAgain: the same arguments have the same results, also where calls go on side by side.
func TestSubgroupsAgain(t *testing.T) {
	g := named(t, "quaternion")
	modules := modulesOf(t, g, 12)
	checkAgain(t, func() string {
		told := ""
		for _, a := range modules {
			for _, h := range subgroupsByHand(g) {
				told += fmt.Sprint(listCalls(g, h), elementCalls(g, h, 3), partCalls(g, a, h, impl.Cochain{Values: []int64{7}}, 6))
			}
		}
		return told
	})
}
