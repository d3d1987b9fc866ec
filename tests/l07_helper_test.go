package tests

import (
	"fmt"
	"slices"
	"testing"

	"loop.example/g01363/impl"
)

// eachSubgroup calls a function for all subgroups of all groups with names, and of these renumbered.
func eachSubgroup(t *testing.T, call func(name string, g impl.Group, h []int64)) {
	t.Helper()
	for name, g := range sampleGroups(t) {
		for _, h := range subgroupsByHand(g) {
			call(fmt.Sprint(name, ", ", h), g, h)
		}
	}
}

// eachNormal is as eachSubgroup, for normal subgroups alone, and beside their quotients and for each
// element the number of its coset.
func eachNormal(t *testing.T, call func(name string, g impl.Group, h []int64, quotient impl.Group, numbers []int64)) {
	t.Helper()
	eachSubgroup(t, func(name string, g impl.Group, h []int64) {
		if !isNormalByHand(g, h) {
			return
		}
		quotient, numbers, code := impl.QuotientOf(g, h)
		if code != impl.ErrNone {
			t.Fatalf("QuotientOf(%s): code %d", name, code)
		}
		call(name, g, h, quotient, numbers)
	})
}

// firstAndLast returns the first and the last module of a group with each of some M.
func firstAndLast(t *testing.T, g impl.Group, moduli []int64) []impl.Module {
	t.Helper()
	var found []impl.Module
	for _, m := range moduli {
		modules := modulesOf(t, g, m)
		found = append(found, modules[0])
		if last := len(modules) - 1; last > 0 {
			found = append(found, modules[last])
		}
	}
	return found
}

// partModuli are M of modules with as many kinds of units as there are: orders 1 to 6, and several
// units that are their own inverses.
var partModuli = []int64{2, 5, 7, 8, 12}

// eachPart calls a function for all subgroups, and some modules, of all groups with names, and of these
// renumbered.
func eachPart(t *testing.T, call func(name string, g impl.Group, a impl.Module, h []int64)) {
	t.Helper()
	for name, g := range sampleGroups(t) {
		for _, a := range firstAndLast(t, g, partModuli) {
			for _, h := range subgroupsByHand(g) {
				call(fmt.Sprint(name, ", ", a, ", ", h), g, a, h)
			}
		}
	}
}

// inverseNumber returns the number of an element among those of a subgroup.
func inverseNumber(h []int64, element int64) int64 { return int64(slices.Index(h, element)) }

// partByHand returns the group of a subgroup.
func partByHand(g impl.Group, h []int64) impl.Group {
	return impl.Group{Table: table(int64(len(h)), func(i, j int64) int64 { return inverseNumber(h, g.Table[h[i]][h[j]]) })}
}

// partModuleByHand returns the module of the group of a subgroup.
func partModuleByHand(a impl.Module, h []int64) impl.Module {
	return impl.Module{M: a.M, Units: imagesOf(a.Units, h)}
}

// restrictedByHand returns the restricted cochain of a cochain.
func restrictedByHand(g impl.Group, a impl.Module, h []int64, f impl.Cochain) impl.Cochain {
	values := valuesByHand(g, f)
	return cochainByHand(partByHand(g, h), a.M, f.Degree, func(list []int64) int64 {
		return values[keyByHand(imagesOf(h, list))]
	})
}

// representativesByHand returns the elements that are the least ones of their cosets.
func representativesByHand(g impl.Group, h []int64) []int64 {
	var found []int64
	for x := range int64(len(g.Table)) {
		if cosetByHand(g, x, h)[0] == x {
			found = append(found, x)
		}
	}
	return found
}

// splitByHand returns the representative t and the element b of a subgroup with the product t b.
func splitByHand(g impl.Group, h, representatives []int64, product int64) (int64, int64) {
	for _, t := range representatives {
		for _, b := range h {
			if g.Table[t][b] == product {
				return t, b
			}
		}
	}
	return -1, -1
}

// transferByHand returns the transfer of a cochain of the degree 0 or 1.
func transferByHand(g impl.Group, a impl.Module, h []int64, f impl.Cochain) impl.Cochain {
	representatives := representativesByHand(g, h)
	values := valuesByHand(partByHand(g, h), f)
	return cochainByHand(g, a.M, f.Degree, func(list []int64) int64 {
		sum := int64(0)
		for _, t := range representatives {
			if f.Degree == 0 {
				sum += a.Units[t] * f.Values[0]
				continue
			}
			other, b := splitByHand(g, h, representatives, g.Table[list[0]][t])
			sum += a.Units[other] * values[keyByHand([]int64{inverseNumber(h, b)})]
		}
		return sum
	})
}

// conjugateByHand returns all c b c', for the elements b of a subgroup, ascending.
func conjugateByHand(g impl.Group, h []int64, c int64) []int64 {
	var conjugate []int64
	for _, b := range h {
		conjugate = append(conjugate, g.Table[g.Table[c][b]][byHand(g, c)])
	}
	slices.Sort(conjugate)
	return conjugate
}

// conjugateCochainByHand returns the conjugate cochain of a cochain of the group of a subgroup.
func conjugateCochainByHand(g impl.Group, a impl.Module, h []int64, f impl.Cochain, c int64) impl.Cochain {
	conjugate, back := conjugateByHand(g, h, c), byHand(g, c)
	values := valuesByHand(partByHand(g, h), f)
	return cochainByHand(partByHand(g, conjugate), a.M, f.Degree, func(list []int64) int64 {
		var inner []int64
		for _, x := range list {
			inner = append(inner, inverseNumber(h, g.Table[g.Table[back][conjugate[x]]][c]))
		}
		return a.Units[c] * values[keyByHand(inner)]
	})
}

// isCocycleByHand reports whether a cochain is a cocycle.
func isCocycleByHand(g impl.Group, a impl.Module, f impl.Cochain) bool {
	return isZeroCochain(boundaryByHand(g, a, f))
}

// someCocycles returns cocycles of the degree n: some that are in general not bounding, each one with
// another boundary added. Where cochains have too many values for a list of classes, products of
// cocycles are taken.
func someCocycles(t *testing.T, g impl.Group, a impl.Module, n int64) []impl.Cochain {
	t.Helper()
	var cocycles []impl.Cochain
	if len(cellsByHand(g, n)) <= 49 {
		classes := classList(t, g, a, n)
		for i := 0; i < len(classes); i += 1 + len(classes)/3 {
			cocycles = append(cocycles, classes[i])
		}
		cocycles = append(cocycles, classes[len(classes)-1])
	} else {
		trivial := modulesOf(t, g, a.M)[0]
		first, second := classList(t, g, a, 1), classList(t, g, trivial, 2)
		cocycles = append(cocycles, productOf(t, g, a, trivial, first[len(first)-1], second[len(second)-1]))
	}
	for i, f := range cocycles {
		cocycles[i] = added(t, g, a, f, sampleBoundary(t, g, a, n, int64(i)+a.M), 1)
	}
	return cocycles
}

// hasAllDegrees reports whether the degree 3, whose cochains have the most values, is looked at too.
func hasAllDegrees(g impl.Group, a impl.Module) bool { return len(g.Table) < 7 || a.M == 2 || a.M == 8 }

// degreesOf returns the degrees of the cochains to be looked at.
func degreesOf(g impl.Group, a impl.Module) []int64 {
	if hasAllDegrees(g, a) {
		return []int64{0, 1, 2, 3}
	}
	return []int64{0, 1, 2}
}

// groupOfSubgroup returns the group of a subgroup.
func groupOfSubgroup(t *testing.T, g impl.Group, h []int64) impl.Group {
	t.Helper()
	return wanted[impl.Group](t, "GroupOfSubgroup")(impl.GroupOfSubgroup(g, h))
}

// moduleOfSubgroup returns the module of the group of a subgroup.
func moduleOfSubgroup(t *testing.T, g impl.Group, a impl.Module, h []int64) impl.Module {
	t.Helper()
	return wanted[impl.Module](t, "ModuleOfSubgroup")(impl.ModuleOfSubgroup(g, a, h))
}

// restricted returns a restricted cochain.
func restricted(t *testing.T, g impl.Group, a impl.Module, h []int64, f impl.Cochain) impl.Cochain {
	t.Helper()
	return wanted[impl.Cochain](t, "RestrictCochain")(impl.RestrictCochain(g, a, h, f))
}

// representativesOf returns the representatives of a subgroup.
func representativesOf(t *testing.T, g impl.Group, h []int64) []int64 {
	t.Helper()
	return wanted[[]int64](t, "RepresentativesOf")(impl.RepresentativesOf(g, h))
}

// transferred returns the transfer of a cochain.
func transferred(t *testing.T, g impl.Group, a impl.Module, h []int64, f impl.Cochain) impl.Cochain {
	t.Helper()
	return wanted[impl.Cochain](t, "TransferCochain")(impl.TransferCochain(g, a, h, f))
}

// inflated returns an inflated cochain, and the module that it is in.
func inflated(t *testing.T, g impl.Group, h []int64, a impl.Module, f impl.Cochain) (impl.Module, impl.Cochain) {
	t.Helper()
	b, k, code := impl.InflateCochain(g, h, a, f)
	if code != impl.ErrNone {
		t.Fatalf("InflateCochain(%v, %v, %v, %v) = %v, %v, %d", g, h, a, f, b, k, code)
	}
	return b, k
}

// conjugateSubgroup returns a conjugate subgroup.
func conjugateSubgroup(t *testing.T, g impl.Group, h []int64, c int64) []int64 {
	t.Helper()
	return wanted[[]int64](t, "ConjugateSubgroup")(impl.ConjugateSubgroup(g, h, c))
}

// conjugateCochain returns a conjugate cochain.
func conjugateCochain(t *testing.T, g impl.Group, a impl.Module, h []int64, f impl.Cochain, c int64) impl.Cochain {
	t.Helper()
	return wanted[impl.Cochain](t, "ConjugateCochain")(impl.ConjugateCochain(g, a, h, f, c))
}

// indexOf returns the index of a subgroup.
func indexOf(t *testing.T, g impl.Group, h []int64) int64 {
	t.Helper()
	return wanted[int64](t, "IndexOf")(impl.IndexOf(g, h))
}

// transferElement returns the transfer of an element.
func transferElement(t *testing.T, g impl.Group, h []int64, x int64) int64 {
	t.Helper()
	return wanted[int64](t, "TransferElement")(impl.TransferElement(g, h, x))
}
