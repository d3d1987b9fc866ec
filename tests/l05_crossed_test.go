package tests

import (
	"slices"
	"testing"

	"loop.example/g01363/impl"
)

// eachSmallList calls a function for some modules of all groups with names, and of these renumbered,
// where there are at most 5000 lists of a number for each element, and for all of these lists.
func eachSmallList(t *testing.T, call func(name string, g impl.Group, a impl.Module, all [][]int64)) {
	t.Helper()
	eachModule(t, func(name string, g impl.Group, a impl.Module) {
		count := int64(1)
		for range g.Table {
			count = min(count*a.M, 10000)
		}
		if count <= 5000 {
			call(name, g, a, lists(int64(len(g.Table)), a.M))
		}
	})
}

// TestCrossedMapsByHand compares crossed maps with those among all lists.
func TestCrossedMapsByHand(t *testing.T) {
	eachSmallList(t, func(name string, g impl.Group, a impl.Module, all [][]int64) {
		var want [][]int64
		for _, list := range all {
			yes := isCrossedByHand(g, a, list)
			if isCrossed(t, g, a, list) != yes {
				t.Errorf("IsCrossed(%s, %v, %v) is not %v", name, a, list, yes)
			}
			if yes {
				want = append(want, list)
			}
		}
		if got := crossedMaps(t, g, a); !equalLists(got, want) {
			t.Errorf("CrossedMaps(%s, %v) = %v, not %v", name, a, got, want)
		}
	})
}

// TestPromise15: crossed maps without the number of 0 are the Values of all cocycles of the degree 1,
// in lexicographic order and each one once.
func TestPromise15(t *testing.T) {
	eachModule(t, func(name string, g impl.Group, a impl.Module) {
		maps := crossedMaps(t, g, a)
		if !areAscending(maps) || int64(len(maps)) != productOfNumbers(cocycleSteps(t, g, a, 1)) {
			t.Errorf("CrossedMaps(%s, %v) = %v", name, a, maps)
		}
		for _, list := range maps {
			if len(list) != len(g.Table) || list[0] != 0 || !isCocycle(t, g, a, impl.Cochain{Degree: 1, Values: list[1:]}) {
				t.Fatalf("CrossedMaps(%s, %v) has %v", name, a, list)
			}
			if !isCrossed(t, g, a, list) || !isCrossedByHand(g, a, list) {
				t.Fatalf("%v of CrossedMaps(%s, %v) is not crossed", list, name, a)
			}
		}
	})
}

// TestCocyclesAreCrossed: of lists with 0 for the element 0, the crossed maps are those whose Values
// are cocycles; no list with another number there is one.
func TestCocyclesAreCrossed(t *testing.T) {
	eachModule(t, func(name string, g impl.Group, a impl.Module) {
		maps := crossedMaps(t, g, a)
		for i := range int64(6) {
			list := slices.Clone(maps[mixed(i, int64(len(maps)))])
			if x := int(i) % len(g.Table); i > 0 {
				list[x] = (list[x] + 1 + mixed(i, a.M-1)) % a.M
			}
			yes := list[0] == 0 && isCocycle(t, g, a, impl.Cochain{Degree: 1, Values: list[1:]})
			if yes != isCrossedByHand(g, a, list) || isCrossed(t, g, a, list) != yes {
				t.Fatalf("IsCrossed(%s, %v, %v) is not %v", name, a, list, yes)
			}
			if !yes {
				checkNotCrossed(t, g, a, list)
			}
		}
	})
}

// checkNotCrossed: what asks for a crossed map refuses a list that is none.
func checkNotCrossed(t *testing.T, g impl.Group, a impl.Module, list []int64) {
	t.Helper()
	for call, results := range crossedCalls(g, a, list) {
		if call != "IsCrossed" && !failed(results, impl.ErrState) {
			t.Errorf("%s(%v, %v): %v", call, a, list, results)
		}
	}
}

// TestPrincipalMaps: the principal maps are crossed, and boundaries of the degree 0; they are told once
// each, and are as many as M has multiples of the number of fixed numbers.
func TestPrincipalMaps(t *testing.T) {
	eachModule(t, func(name string, g impl.Group, a impl.Module) {
		var want [][]int64
		maps := crossedMaps(t, g, a)
		for m := range a.M {
			list := principalMap(t, g, a, m)
			boundary := boundaryOf(t, g, a, impl.Cochain{Values: []int64{m}})
			if !slices.Equal(list, principalByHand(a, m)) || !slices.Equal(list[1:], boundary.Values) {
				t.Fatalf("PrincipalMap(%s, %v, %d) = %v", name, a, m, list)
			}
			if !isCrossed(t, g, a, list) || !hasList(maps, list) {
				t.Fatalf("PrincipalMap(%s, %v, %d) = %v is not crossed", name, a, m, list)
			}
			if !hasList(want, list) {
				want = append(want, list)
			}
		}
		slices.SortFunc(want, slices.Compare[[]int64])
		fixed := wanted[[]int64](t, "FixedNumbers")(impl.FixedNumbers(g, a))
		got := principalMaps(t, g, a)
		if !equalLists(got, want) || !areAscending(got) || len(got)*len(fixed) != int(a.M) {
			t.Errorf("PrincipalMaps(%s, %v) = %v, not %v", name, a, got, want)
		}
	})
}

// TestPrincipalMapsOnce: several numbers have the same principal map, which is told once.
func TestPrincipalMapsOnce(t *testing.T) {
	c2 := named(t, "c2")
	a := impl.Module{M: 12, Units: []int64{1, 7}}
	if got := principalMaps(t, c2, a); !equalLists(got, [][]int64{{0, 0}, {0, 6}}) {
		t.Errorf("PrincipalMaps(c2, %v) = %v", a, got)
	}
	a = impl.Module{M: 9, Units: []int64{1, 8}}
	if got := principalMaps(t, c2, a); len(got) != 9 || !slices.Equal(got[1], []int64{0, 1}) || !slices.Equal(principalMap(t, c2, a, 1), []int64{0, 7}) {
		t.Errorf("PrincipalMaps(c2, %v) = %v", a, got)
	}
	a = impl.Module{M: 12, Units: []int64{1, 1}}
	if got := principalMaps(t, c2, a); !equalLists(got, [][]int64{{0, 0}}) {
		t.Errorf("PrincipalMaps(c2, %v) = %v", a, got)
	}
}

// TestClassesPartCrossedMaps: each class is told by its least map, that of each of its maps, and the
// classes have all crossed maps together.
func TestClassesPartCrossedMaps(t *testing.T) {
	eachModule(t, func(name string, g impl.Group, a impl.Module) {
		var want [][]int64
		maps := crossedMaps(t, g, a)
		for _, list := range maps {
			class := classByHand(a, list)
			if got := classOfCrossed(t, g, a, list); !slices.Equal(got, class[0]) {
				t.Fatalf("ClassOfCrossed(%s, %v, %v) = %v, not %v", name, a, list, got, class[0])
			}
			if !hasList(maps, class[len(class)-1]) {
				t.Fatalf("the class of %v (%s, %v) has %v, no crossed map", list, name, a, class[len(class)-1])
			}
			if slices.Equal(class[0], list) {
				want = append(want, list)
			}
		}
		classes := crossedClasses(t, g, a)
		if !equalLists(classes, want) || len(classes)*len(principalMaps(t, g, a)) != len(maps) {
			t.Errorf("CrossedClasses(%s, %v) = %v, not %v", name, a, classes, want)
		}
		// The least cocycles of chapter 4 tell the same classes.
		cocycles := classList(t, g, a, 1)
		same := func(list []int64, f impl.Cochain) bool { return slices.Equal(list[1:], f.Values) }
		if !slices.EqualFunc(classes, cocycles, same) {
			t.Errorf("CrossedClasses(%s, %v) = %v, ClassList %v", name, a, classes, cocycles)
		}
	})
}

// TestKernelsAreSubgroups: kernels have just the elements with the number 0, and are subgroups.
func TestKernelsAreSubgroups(t *testing.T) {
	eachModule(t, func(name string, g impl.Group, a impl.Module) {
		for _, list := range crossedMaps(t, g, a) {
			kernel := kernelOfCrossed(t, g, a, list)
			var want []int64
			for x, m := range list {
				if m == 0 {
					want = append(want, int64(x))
				}
			}
			if !slices.Equal(kernel, want) {
				t.Fatalf("KernelOfCrossed(%s, %v, %v) = %v, not %v", name, a, list, kernel, want)
			}
			made := wanted[[]int64](t, "SubgroupOf")(impl.SubgroupOf(g, kernel))
			if !slices.Equal(made, kernel) {
				t.Fatalf("KernelOfCrossed(%s, %v, %v) = %v, which makes %v", name, a, list, kernel, made)
			}
		}
	})
}

// TestCrossedOfOneElement: the group with one element has one crossed map for each M, the principal
// map of all numbers.
func TestCrossedOfOneElement(t *testing.T) {
	g := named(t, "c1")
	one := [][]int64{{0}}
	for m := int64(2); m <= 12; m++ {
		a := impl.Module{M: m, Units: []int64{1}}
		if !equalLists(crossedMaps(t, g, a), one) || !equalLists(principalMaps(t, g, a), one) || !equalLists(crossedClasses(t, g, a), one) {
			t.Errorf("M = %d: CrossedMaps %v, PrincipalMaps %v, CrossedClasses %v", m, crossedMaps(t, g, a), principalMaps(t, g, a), crossedClasses(t, g, a))
		}
		if !slices.Equal(kernelOfCrossed(t, g, a, one[0]), one[0]) || !slices.Equal(classOfCrossed(t, g, a, one[0]), one[0]) || isCrossed(t, g, a, []int64{1}) {
			t.Errorf("M = %d: kernel %v, class %v", m, kernelOfCrossed(t, g, a, one[0]), classOfCrossed(t, g, a, one[0]))
		}
		if !slices.Equal(principalMap(t, g, a, m-1), one[0]) {
			t.Errorf("PrincipalMap(c1, %d, %d) = %v", m, m-1, principalMap(t, g, a, m-1))
		}
	}
}

// TestCrossedOfLeastAndGreatestModulus: homomorphisms for the trivial modules, and many maps where an
// element leads numbers to their opposites.
func TestCrossedOfLeastAndGreatestModulus(t *testing.T) {
	c2, cube := named(t, "c2"), named(t, "cube")
	two := impl.Module{M: 2, Units: []int64{1, 1}}
	if got := crossedMaps(t, c2, two); !equalLists(got, [][]int64{{0, 0}, {0, 1}}) {
		t.Errorf("CrossedMaps(c2, %v) = %v", two, got)
	}
	twelve := impl.Module{M: 12, Units: []int64{1, 11}}
	if got := crossedMaps(t, c2, twelve); len(got) != 12 || !slices.Equal(got[11], []int64{0, 11}) {
		t.Errorf("CrossedMaps(c2, %v) = %v", twelve, got)
	}
	if got := crossedClasses(t, c2, twelve); !equalLists(got, [][]int64{{0, 0}, {0, 1}}) {
		t.Errorf("CrossedClasses(c2, %v) = %v", twelve, got)
	}
	for _, m := range []int64{2, 12} {
		a, _ := impl.TrivialModule(cube, m)
		want := [][]int64{}
		for _, images := range lists(3, 2) {
			var list []int64
			for x := range int64(8) {
				list = append(list, (images[2]*(x%2)+images[1]*(x/2%2)+images[0]*(x/4))%2*m/2)
			}
			want = append(want, list)
		}
		if got := crossedMaps(t, cube, a); !areSameLists(got, want) || !equalLists(crossedClasses(t, cube, a), got) {
			t.Errorf("CrossedMaps(cube, %d) = %v, not %v", m, got, want)
		}
	}
}

// areSameLists reports whether lists in lexicographic order are the same as others in any order.
func areSameLists(ascending, others [][]int64) bool {
	sorted := slices.Clone(others)
	slices.SortFunc(sorted, slices.Compare[[]int64])
	return equalLists(ascending, sorted)
}
