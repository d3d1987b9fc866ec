package tests

import (
	"fmt"
	"slices"
	"testing"

	"loop.example/g01363/impl"
)

// eachChoice calls a function for all elements but 0 of all groups with names, and of these renumbered,
// that make a normal subgroup.
func eachChoice(t *testing.T, call func(name string, e impl.Group, z int64)) {
	t.Helper()
	for name, e := range sampleGroups(t) {
		for z := int64(1); z < int64(len(e.Table)); z++ {
			if makesNormal(e, z) {
				call(fmt.Sprint(name, ", ", z), e, z)
			}
		}
	}
}

// leastOfCosets returns the quotient by the subgroup that an element makes, and the least element of each
// of its cosets.
func leastOfCosets(t *testing.T, e impl.Group, z int64) (impl.Group, []int64) {
	t.Helper()
	set := slices.Clone(madeBy(e, z))
	slices.Sort(set)
	quotient, numbers, code := impl.QuotientOf(e, set)
	if code != impl.ErrNone {
		t.Fatalf("QuotientOf(%v, %v): code %d", e, set, code)
	}
	var least []int64
	for x := range quotient.Table {
		least = append(least, int64(slices.Index(numbers, int64(x))))
	}
	return quotient, least
}

// TestModulesOfChoices: the quotient is that by the subgroup made by z, and the module is one of it, whose
// units lead the powers of z as conjugates do.
func TestModulesOfChoices(t *testing.T) {
	eachChoice(t, func(name string, e impl.Group, z int64) {
		powers := madeBy(e, z)
		want, least := leastOfCosets(t, e, z)
		quotient, a := moduleOfChoice(t, e, z)
		if !equalLists(quotient.Table, want.Table) || a.M != int64(len(powers)) || !isModuleByHand(quotient, a) {
			t.Fatalf("ModuleOfChoice(%s) = %v, %v", name, quotient, a)
		}
		for x, s := range least {
			if conjugate := e.Table[e.Table[s][z]][byHand(e, s)]; powers[a.Units[x]] != conjugate {
				t.Errorf("ModuleOfChoice(%s) = %v, %v: %d leads %d to %d", name, quotient, a, s, z, conjugate)
			}
		}
	})
}

// TestFactorSetsOfChoices: the values are the exponents by which products of least elements differ from
// least elements, and the factor set is a cocycle of the degree 2 of the quotient.
func TestFactorSetsOfChoices(t *testing.T) {
	eachChoice(t, func(name string, e impl.Group, z int64) {
		powers := madeBy(e, z)
		quotient, least := leastOfCosets(t, e, z)
		_, a := moduleOfChoice(t, e, z)
		f := factorSetOfChoice(t, e, z)
		if yes, code := impl.IsCochain(quotient, a, f); f.Degree != 2 || !yes || code != impl.ErrNone {
			t.Fatalf("FactorSetOfChoice(%s) = %v", name, f)
		}
		if !isZeroCochain(boundaryByHand(quotient, a, f)) || !isCocycle(t, quotient, a, f) {
			t.Errorf("FactorSetOfChoice(%s) = %v is no cocycle", name, f)
		}
		for i, list := range cellsByHand(quotient, 2) {
			x, y := list[0], list[1]
			if e.Table[least[x]][least[y]] != e.Table[powers[f.Values[i]]][least[quotient.Table[x][y]]] {
				t.Errorf("FactorSetOfChoice(%s) = %v: wrong at %v", name, f, list)
			}
		}
	})
}

// TestExtensionsOfChoices: the extension of the quotient, the module and the factor set is isomorphic to
// the group, as the products of powers of z and of least elements tell.
func TestExtensionsOfChoices(t *testing.T) {
	eachChoice(t, func(name string, e impl.Group, z int64) {
		powers := madeBy(e, z)
		_, least := leastOfCosets(t, e, z)
		quotient, a := moduleOfChoice(t, e, z)
		extension := extensionGroup(t, quotient, a, factorSetOfChoice(t, e, z))
		if _, code := impl.FindIsomorphism(extension, e); code != impl.ErrNone {
			t.Fatalf("the extension %v of %s is not isomorphic: code %d", extension, name, code)
		}
		var images []int64
		for _, s := range least {
			for _, power := range powers {
				images = append(images, e.Table[power][s])
			}
		}
		if !isHomomorphismByHand(extension, e, images) || len(images) != len(e.Table) || len(slices.Compact(slices.Sorted(slices.Values(images)))) != len(images) {
			t.Errorf("the extension of %s has the isomorphism %v", name, images)
		}
	})
}

// TestChoicesSplit: extensions of choices split just where the group has a complement: a subgroup with one
// element of each coset.
func TestChoicesSplit(t *testing.T) {
	eachChoice(t, func(name string, e impl.Group, z int64) {
		powers := madeBy(e, z)
		want := slices.ContainsFunc(subgroupsByHand(e), func(set []int64) bool {
			both := slices.ContainsFunc(set, func(x int64) bool { return x != 0 && slices.Contains(powers, x) })
			return len(set)*len(powers) == len(e.Table) && !both
		})
		quotient, a := moduleOfChoice(t, e, z)
		if splits(t, quotient, a, factorSetOfChoice(t, e, z)) != want {
			t.Errorf("Splits(%s) is not %v", name, want)
		}
	})
}

// TestChoiceExamples: known choices; z and its inverse have other factor sets.
func TestChoiceExamples(t *testing.T) {
	for _, example := range []struct {
		name             string
		z                int64
		quotient, module string
		factorSet        string
	}{
		{"c2", 1, "0", "2:1", "2:"},
		{"c4", 2, "01,10", "2:1,1", "2:1"},
		{"c8", 1, "0", "8:1", "2:"},
		{"c8", 3, "0", "8:1", "2:"},
		{"c8", 2, "01,10", "4:1,1", "2:1"},
		{"c8", 6, "01,10", "4:1,1", "2:3"},
		{"c8", 4, "0123,1230,2301,3012", "2:1,1,1,1", "2:0,0,1,0,1,1,1,1,1"},
		{"c6", 3, "012,120,201", "2:1,1,1", "2:0,1,1,1"},
		{"klein", 3, "01,10", "2:1,1", "2:0"},
		{"s3", 1, "01,10", "3:1,2", "2:0"},
		{"s3", 2, "01,10", "3:1,2", "2:0"},
		{"dihedral", 1, "01,10", "4:1,3", "2:0"},
		{"quaternion", 1, "01,10", "4:1,3", "2:2"},
		{"quaternion", 5, "01,10", "4:1,3", "2:2"},
		{"dihedral", 2, "0123,1032,2301,3210", "2:1,1,1,1", "2:1,1,0,0,0,0,1,1,0"},
	} {
		e := named(t, example.name)
		quotient, a := moduleOfChoice(t, e, example.z)
		f := factorSetOfChoice(t, e, example.z)
		text := wanted[string](t, "GroupText")(impl.GroupText(quotient))
		module := wanted[string](t, "ModuleText")(impl.ModuleText(quotient, a))
		if text != example.quotient || module != example.module || textByHand(f) != example.factorSet {
			t.Errorf("the choice of %s and %d: %s, %s, %s", example.name, example.z, text, module, textByHand(f))
		}
	}
}

// TestNumbersThatAreNoChoice: 0 and what is no element are not as told, and an element that makes no normal
// subgroup is ErrState.
func TestNumbersThatAreNoChoice(t *testing.T) {
	none := 0
	for name, e := range sampleGroups(t) {
		n := int64(len(e.Table))
		for _, z := range append(badNumbers(n), 0, n+7, -n) {
			checkCode(t, fmt.Sprint(name, ", ", z), impl.ErrRange, choiceCalls(e, z))
		}
		for z := int64(1); z < n; z++ {
			if !makesNormal(e, z) {
				none++
				checkCode(t, fmt.Sprint(name, ", ", z), impl.ErrState, choiceCalls(e, z))
			}
		}
	}
	// Three reflections of s3, and four of dihedral, and those of the renumbered groups.
	if none != 14 {
		t.Errorf("%d elements make no normal subgroup", none)
	}
}
