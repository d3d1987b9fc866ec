package tests

import (
	"testing"

	"loop.example/g01363/impl"
)

// extensionByHand returns the products of the extension of a factor set, row by row, as the document
// tells them.
func extensionByHand(g impl.Group, a impl.Module, f impl.Cochain) [][]int64 {
	values := valuesByHand(g, f)
	parts := partsByHand(g, a)
	rows := make([][]int64, len(parts))
	for i, p := range parts {
		for _, q := range parts {
			factor := values[keyByHand([]int64{p.element, q.element})]
			number := restByHand(p.number+a.Units[p.element]*q.number+factor, a.M)
			rows[i] = append(rows[i], a.M*g.Table[p.element][q.element]+number)
		}
	}
	return rows
}

// isSectionByHand reports whether a list of a number for each element is a section of an extension with
// the given products.
func isSectionByHand(g impl.Group, a impl.Module, products [][]int64, list []int64) bool {
	element := func(x int64) int64 { return a.M*x + list[x] }
	for x, row := range g.Table {
		for y, product := range row {
			if products[element(int64(x))][element(int64(y))] != element(product) {
				return false
			}
		}
	}
	return true
}

// someFactorSets returns the least factor sets of some classes, that with the value 0 first, and for
// each of them another one of the same class.
func someFactorSets(t *testing.T, g impl.Group, a impl.Module) []impl.Cochain {
	t.Helper()
	var sets []impl.Cochain
	classes := classList(t, g, a, 2)
	for i := 0; i < len(classes); i += 1 + len(classes)/3 {
		sets = append(sets, classes[i], added(t, g, a, classes[i], sampleBoundary(t, g, a, 2, int64(i)+a.M), 1))
	}
	return sets
}

// eachExtension calls a function for some modules of all groups with names, and of these renumbered,
// where extensions have at most 64 elements, and for some factor sets of these.
func eachExtension(t *testing.T, call func(name string, g impl.Group, a impl.Module, f impl.Cochain)) {
	t.Helper()
	eachSomeModule(t, func(name string, g impl.Group, a impl.Module) {
		if int64(len(g.Table))*a.M > 64 {
			return
		}
		for _, f := range someFactorSets(t, g, a) {
			call(name, g, a, f)
		}
	})
}

// eachCountable calls a function for all modules of all groups with names, and of these renumbered,
// where extensions have at most 8 elements, and for all factor sets.
func eachCountable(t *testing.T, call func(name string, g impl.Group, a impl.Module, sets []impl.Cochain)) {
	t.Helper()
	eachModule(t, func(name string, g impl.Group, a impl.Module) {
		if int64(len(g.Table))*a.M > 8 {
			return
		}
		var sets []impl.Cochain
		for _, f := range allCochains(g, a, 2) {
			if isZeroCochain(boundaryByHand(g, a, f)) {
				sets = append(sets, f)
			}
		}
		call(name, g, a, sets)
	})
}

// kindOf returns the name of the group with a name to which a group is isomorphic.
func kindOf(t *testing.T, g impl.Group) string {
	t.Helper()
	for _, name := range allNames {
		if _, code := impl.FindIsomorphism(g, named(t, name)); code == impl.ErrNone {
			return name
		}
	}
	t.Fatalf("%v is isomorphic to no group with a name", g)
	return ""
}

// notFactorSet returns a cochain of the degree 2 that is no cocycle, and whether one was found.
func notFactorSet(t *testing.T, g impl.Group, a impl.Module) (impl.Cochain, bool) {
	t.Helper()
	for seed := range int64(20) {
		if f := sampleCochain(g, a, 2, seed); !isZeroCochain(boundaryByHand(g, a, f)) {
			return f, true
		}
	}
	return impl.Cochain{}, false
}

// extensionCalls calls all functions of the chapter that ask for a factor set, but for ExtensionGroup,
// whose limit is another one.
func extensionCalls(g impl.Group, a impl.Module, f impl.Cochain) map[string][]any {
	return map[string][]any{
		"ExtensionTable":    all(impl.ExtensionTable(g, a, f)),
		"Splits":            all(impl.Splits(g, a, f)),
		"FirstSection":      all(impl.FirstSection(g, a, f)),
		"OrdersOfExtension": all(impl.OrdersOfExtension(g, a, f)),
		"CentreOfExtension": all(impl.CentreOfExtension(g, a, f)),
	}
}

// groupCalls calls ExtensionGroup.
func groupCalls(g impl.Group, a impl.Module, f impl.Cochain) map[string][]any {
	return map[string][]any{"ExtensionGroup": all(impl.ExtensionGroup(g, a, f))}
}

// countCalls calls CountExtensionGroups.
func countCalls(g impl.Group, a impl.Module) map[string][]any {
	return map[string][]any{"CountExtensionGroups": all(impl.CountExtensionGroups(g, a))}
}

// choiceCalls calls all functions of the chapter that ask for a choice.
func choiceCalls(e impl.Group, z int64) map[string][]any {
	return map[string][]any{
		"ModuleOfChoice":    all(impl.ModuleOfChoice(e, z)),
		"FactorSetOfChoice": all(impl.FactorSetOfChoice(e, z)),
	}
}

// extensionTable returns the products of an extension.
func extensionTable(t *testing.T, g impl.Group, a impl.Module, f impl.Cochain) [][]int64 {
	t.Helper()
	return wanted[[][]int64](t, "ExtensionTable")(impl.ExtensionTable(g, a, f))
}

// extensionGroup returns an extension as a group.
func extensionGroup(t *testing.T, g impl.Group, a impl.Module, f impl.Cochain) impl.Group {
	t.Helper()
	return wanted[impl.Group](t, "ExtensionGroup")(impl.ExtensionGroup(g, a, f))
}

// splits reports whether an extension splits.
func splits(t *testing.T, g impl.Group, a impl.Module, f impl.Cochain) bool {
	t.Helper()
	return wanted[bool](t, "Splits")(impl.Splits(g, a, f))
}

// firstSection returns the least section of an extension that splits.
func firstSection(t *testing.T, g impl.Group, a impl.Module, f impl.Cochain) []int64 {
	t.Helper()
	return wanted[[]int64](t, "FirstSection")(impl.FirstSection(g, a, f))
}

// ordersOfExtension returns the orders of all elements of an extension.
func ordersOfExtension(t *testing.T, g impl.Group, a impl.Module, f impl.Cochain) []int64 {
	t.Helper()
	return wanted[[]int64](t, "OrdersOfExtension")(impl.OrdersOfExtension(g, a, f))
}

// centreOfExtension returns the centre of an extension.
func centreOfExtension(t *testing.T, g impl.Group, a impl.Module, f impl.Cochain) []int64 {
	t.Helper()
	return wanted[[]int64](t, "CentreOfExtension")(impl.CentreOfExtension(g, a, f))
}

// countExtensionGroups returns the number of groups that are extensions.
func countExtensionGroups(t *testing.T, g impl.Group, a impl.Module) int64 {
	t.Helper()
	return wanted[int64](t, "CountExtensionGroups")(impl.CountExtensionGroups(g, a))
}

// moduleOfChoice returns the quotient and the module of a choice.
func moduleOfChoice(t *testing.T, e impl.Group, z int64) (impl.Group, impl.Module) {
	t.Helper()
	quotient, a, code := impl.ModuleOfChoice(e, z)
	if code != impl.ErrNone {
		t.Fatalf("ModuleOfChoice(%v, %d) = %v, %v, %d", e, z, quotient, a, code)
	}
	return quotient, a
}

// factorSetOfChoice returns the factor set of a choice.
func factorSetOfChoice(t *testing.T, e impl.Group, z int64) impl.Cochain {
	t.Helper()
	return wanted[impl.Cochain](t, "FactorSetOfChoice")(impl.FactorSetOfChoice(e, z))
}

// madeBy returns the subgroup that an element makes, as the powers from that of 0 on.
func madeBy(e impl.Group, z int64) []int64 {
	powers := []int64{0}
	for p := z; p != 0; p = e.Table[p][z] {
		powers = append(powers, p)
	}
	return powers
}

// makesNormal reports whether the subgroup that an element makes is normal.
func makesNormal(e impl.Group, z int64) bool { return isNormalByHand(e, madeBy(e, z)) }
