package tests

import (
	"fmt"
	"math"
	"slices"
	"testing"

	"loop.example/g01363/impl"
)

// TestInvalidGroupsOfMultipliers asks each function for what is no group, whatever m and the cochain are.
func TestInvalidGroupsOfMultipliers(t *testing.T) {
	for name, g := range notGroups() {
		checkCode(t, name, impl.ErrInvalid, groupOwnCalls(g))
		cells := max(len(g.Table)-1, 0)
		cochains := append(someCochains(), impl.Cochain{Degree: 2, Values: make([]int64, cells*cells)}, impl.Cochain{Degree: 1, Values: make([]int64, cells)})
		for _, m := range append(badModuli(), 2, 3, 8, 12) {
			for _, f := range cochains {
				checkTwistCode(t, name, impl.ErrInvalid, g, m, f)
			}
		}
	}
}

// TestModuliOfFactorSets: m = 2 and MaxModulus are accepted, m = 1, one more than MaxModulus and others are ErrRange,
// whatever the cochain is: also where it is none, has another Degree, or is no factor set.
func TestModuliOfFactorSets(t *testing.T) {
	for name, g := range sampleGroups(t) {
		zero := impl.Cochain{Degree: 2, Values: make([]int64, len(cellsByHand(g, 2)))}
		cochains := append(someCochains(), zero)
		for n := range int64(4) {
			cochains = append(cochains, sampleCochain(g, trivialByHand(g, 2), n, n))
		}
		for _, m := range append(badModuli(), impl.MaxModulus+1) {
			for _, f := range cochains {
				checkTwistCode(t, name, impl.ErrRange, g, m, f)
			}
		}
		for m := int64(2); m <= impl.MaxModulus; m++ {
			checkTwistHas(t, name, g, m, zero)
		}
	}
	c3 := named(t, "c3")
	for name, f := range notCochains() {
		for _, m := range badModuli() {
			checkTwistCode(t, name, impl.ErrRange, c3, m, f)
		}
	}
}

// TestInvalidCochainsOfMultipliers asks for what is no cochain: that is ErrInvalid, also where the Degree is another one.
func TestInvalidCochainsOfMultipliers(t *testing.T) {
	c3 := named(t, "c3")
	for name, f := range notCochains() {
		checkTwistCode(t, name, impl.ErrInvalid, c3, 4, f)
	}
	for name, g := range sampleGroups(t) {
		for n := range int64(4) {
			cells := len(cellsByHand(g, n))
			for _, count := range []int{cells - 1, cells + 1, 0, 1, 2 * cells, 2*cells + 400} {
				if count >= 0 && count != cells {
					checkTwistCode(t, name, impl.ErrInvalid, g, 12, impl.Cochain{Degree: n, Values: make([]int64, count)})
				}
			}
			checkTwistCode(t, name, impl.ErrInvalid, g, 12, impl.Cochain{Degree: -n - 1, Values: make([]int64, cells)})
		}
	}
}

// TestValuesOfFactorSets: M - 1 is a value; -1, M and others are none, in whatever place they are. Such values are
// ErrInvalid, also where the Degree is another one.
func TestValuesOfFactorSets(t *testing.T) {
	eachTrivial(t, func(name string, g impl.Group, m int64) {
		for n := range int64(4) {
			f := impl.Cochain{Degree: n, Values: make([]int64, len(cellsByHand(g, n)))}
			if len(f.Values) == 0 {
				continue
			}
			for _, place := range []int{0, len(f.Values) / 2, len(f.Values) - 1} {
				for _, x := range []int64{-1, m, m + 1, 2 * m, -m, math.MinInt64, math.MaxInt64} {
					f.Values[place] = x
					checkTwistCode(t, name, impl.ErrInvalid, g, m, f)
				}
				f.Values[place] = m - 1
				for call, results := range twistCalls(g, m, f) {
					if codeOf(results) == impl.ErrInvalid {
						t.Errorf("%s(%s, %d, %v): %v", call, name, m, f, results)
					}
				}
				f.Values[place] = 0
			}
		}
	})
}

// TestOtherDegreesOfFactorSets: cochains of the degrees 0, 1 and 3 are ErrRange, be they cocycles or not.
func TestOtherDegreesOfFactorSets(t *testing.T) {
	eachTrivial(t, func(name string, g impl.Group, m int64) {
		for _, n := range []int64{0, 1, 3} {
			zero := impl.Cochain{Degree: n, Values: make([]int64, len(cellsByHand(g, n)))}
			checkTwistCode(t, name, impl.ErrRange, g, m, zero)
			checkTwistCode(t, name, impl.ErrRange, g, m, sampleCochain(g, trivialByHand(g, m), n, m))
		}
	})
}

// TestNoFactorSetsOfMultipliers: cochains of the degree 2 that are no factor sets are ErrState.
func TestNoFactorSetsOfMultipliers(t *testing.T) {
	none := 0
	eachTrivial(t, func(name string, g impl.Group, m int64) {
		a := trivialByHand(g, m)
		for _, class := range classList(t, g, a, 2) {
			f, found := notFactorSet(t, g, a)
			if !found {
				continue
			}
			none++
			checkTwistCode(t, name, impl.ErrState, g, m, added(t, g, a, f, class, 1))
		}
	})
	if none < 1000 {
		t.Errorf("only %d cochains are no factor sets", none)
	}
}

// TestSymmetricWithoutFactorSet: a cochain with equal values at x, y and y, x that is no factor set is ErrState.
func TestSymmetricWithoutFactorSet(t *testing.T) {
	for name, g := range sampleGroups(t) {
		if len(g.Table) < 3 {
			continue
		}
		for m := int64(2); m <= 12; m++ {
			f := cochainByHand(g, m, 2, func(list []int64) int64 {
				if list[0] == 1 && list[1] == 1 {
					return m - 1
				}
				return 0
			})
			if !isSymmetricByHand(g, f) || isCocycleByHand(g, trivialByHand(g, m), f) {
				t.Fatalf("%s, %d: %v is a factor set, or not symmetric", name, m, f)
			}
			checkTwistCode(t, name, impl.ErrState, g, m, f)
		}
	}
}

// TestFactorSetsOfOtherModules: boundaries of a module with other units than 1 are in general no factor sets of the
// trivial one.
func TestFactorSetsOfOtherModules(t *testing.T) {
	none := 0
	eachModule(t, func(name string, g impl.Group, a impl.Module) {
		f := sampleBoundary(t, g, a, 2, a.M)
		if isCocycleByHand(g, trivialByHand(g, a.M), f) {
			checkFactorSet(t, name, g, a.M, f)
			return
		}
		none++
		checkTwistCode(t, name, impl.ErrState, g, a.M, f)
	})
	if none < 500 {
		t.Errorf("only %d boundaries are no factor sets", none)
	}
}

// TestFactorSetsOfOneElement: the group with one element has one factor set, without Values. Others are no cochains, or
// have another Degree.
func TestFactorSetsOfOneElement(t *testing.T) {
	c1 := named(t, "c1")
	for m := int64(2); m <= 12; m++ {
		f := impl.Cochain{Degree: 2}
		checkFactorSet(t, "c1", c1, m, f)
		checkFactorSet(t, "c1", c1, m, impl.Cochain{Degree: 2, Values: []int64{}})
		if form := formOf(t, c1, m, f); !equalLists(form, [][]int64{{0}}) || !isSymmetric(t, c1, m, f) {
			t.Errorf("FormOf(c1, %d) = %v", m, form)
		}
		checkTwistCode(t, "c1", impl.ErrInvalid, c1, m, impl.Cochain{Degree: 2, Values: []int64{0}})
		checkTwistCode(t, "c1", impl.ErrInvalid, c1, m, impl.Cochain{})
		checkTwistCode(t, "c1", impl.ErrRange, c1, m, impl.Cochain{Values: []int64{m - 1}})
		checkTwistCode(t, "c1", impl.ErrRange, c1, m, impl.Cochain{Degree: 1})
		checkTwistCode(t, "c1", impl.ErrRange, c1, m, impl.Cochain{Degree: 3})
	}
}

// TestMultipliersShareNoMemory overwrites results: neither arguments, nor other results change.
func TestMultipliersShareNoMemory(t *testing.T) {
	cube, g := named(t, "cube"), named(t, "dihedral")
	classes := classList(t, g, trivialByHand(g, 4), 2)
	numbers := func(list []int64, code int64) [][]int64 { return [][]int64{list} }
	rows := func(lists [][]int64, code int64) [][]int64 { return lists }
	calls := map[string]func() [][]int64{
		"AbelianInvariants": func() [][]int64 { return numbers(impl.AbelianInvariants(cube)) },
		"MultiplierOf":      func() [][]int64 { return numbers(impl.MultiplierOf(cube)) },
	}
	for i, f := range classes {
		calls[fmt.Sprint("FormOf ", i)] = func() [][]int64 { return rows(impl.FormOf(g, 4, f)) }
		calls[fmt.Sprint("RegularElements ", i)] = func() [][]int64 { return numbers(impl.RegularElements(g, 4, f)) }
		calls[fmt.Sprint("RegularClasses ", i)] = func() [][]int64 { return rows(impl.RegularClasses(g, 4, f)) }
	}
	checkSharing(t, calls, func() string { return fmt.Sprint(cube, g, classes) })
}

func TestMultiplierArgumentsAreKept(t *testing.T) {
	for _, name := range allNames {
		plain := named(t, name)
		g := spareGroup(plain)
		for _, m := range []int64{2, 8, 12} {
			a := trivialByHand(plain, m)
			classes := classList(t, plain, a, 2)
			f, h := spareCochain(sampleCochain(plain, a, 2, 2)), spareCochain(classes[len(classes)-1])
			cells := len(f.Values)
			told := func() string { return wholeGroup(g) + fmt.Sprint(f, f.Values[:cells+3], h, h.Values[:cells+3]) }
			before := told()
			groupOwnCalls(g)
			twistCalls(g, m, f)
			twistCalls(g, m, h)
			if told() != before {
				t.Errorf("%s: an argument has changed", name)
			}
		}
	}
}

// TestMultipliersAgain: the same arguments have the same results, also where calls go on side by side.
func TestMultipliersAgain(t *testing.T) {
	groups := []impl.Group{named(t, "klein"), named(t, "c2c4"), named(t, "dihedral")}
	sets := [][]impl.Cochain{}
	for _, g := range groups {
		sets = append(sets, slices.Concat(classList(t, g, trivialByHand(g, 4), 2), someCochains()))
	}
	checkAgain(t, func() string {
		told := ""
		for i, g := range groups {
			told += fmt.Sprint(groupOwnCalls(g))
			for _, f := range sets[i] {
				told += fmt.Sprint(twistCalls(g, 4, f))
			}
		}
		return told
	})
}

// TestNoGoroutineOfMultipliersIsLeft: after many calls, those with errors among them, there are no more goroutines than
// before.
func TestNoGoroutineOfMultipliersIsLeft(t *testing.T) {
	g := named(t, "klein")
	checkNoGoroutineLeft(t, func() {
		for _, m := range []int64{1, 2, 3, 12, 13} {
			groupOwnCalls(g)
			for _, f := range append(someCochains(), impl.Cochain{Degree: 2, Values: make([]int64, 9)}) {
				twistCalls(g, m, f)
			}
		}
	})
}
