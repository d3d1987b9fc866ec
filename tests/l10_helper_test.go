package tests

import (
	"fmt"
	"slices"
	"testing"

	"loop.example/g01363/impl"
)

// trivialByHand returns the trivial module with M = m.
func trivialByHand(g impl.Group, m int64) impl.Module {
	return impl.Module{M: m, Units: slices.Repeat([]int64{1}, len(g.Table))}
}

// commuteByHand reports whether x y is y x.
func commuteByHand(g impl.Group, x, y int64) bool { return g.Table[x][y] == g.Table[y][x] }

// formByHand returns the form of a factor set, as the document tells it.
func formByHand(g impl.Group, m int64, f impl.Cochain) [][]int64 {
	values := valuesByHand(g, f)
	return table(int64(len(g.Table)), func(x, y int64) int64 {
		if !commuteByHand(g, x, y) {
			return -1
		}
		return restByHand(values[keyByHand([]int64{x, y})]-values[keyByHand([]int64{y, x})], m)
	})
}

// zeroForm returns the form that has 0 where x y is y x, and -1 elsewhere.
func zeroForm(g impl.Group) [][]int64 {
	return formByHand(g, 2, impl.Cochain{Degree: 2, Values: make([]int64, len(cellsByHand(g, 2)))})
}

// isSymmetricByHand reports whether the values at x, y and at y, x are equal for all x and y, also where x y
// differs from y x.
func isSymmetricByHand(g impl.Group, f impl.Cochain) bool {
	values := valuesByHand(g, f)
	for _, list := range cellsByHand(g, 2) {
		if values[keyByHand(list)] != values[keyByHand([]int64{list[1], list[0]})] {
			return false
		}
	}
	return true
}

// isRegularByHand reports whether a form has 0 at x, y for all y with x y = y x.
func isRegularByHand(g impl.Group, form [][]int64, x int64) bool {
	for y := range int64(len(g.Table)) {
		if commuteByHand(g, x, y) && form[x][y] != 0 {
			return false
		}
	}
	return true
}

// regularByHand returns all regular elements of a form, and all classes of conjugate elements that have none but
// regular ones.
func regularByHand(g impl.Group, form [][]int64) ([]int64, [][]int64) {
	var elements []int64
	var classes [][]int64
	for x := range int64(len(g.Table)) {
		if isRegularByHand(g, form, x) {
			elements = append(elements, x)
		}
	}
	for _, class := range classesByHand(g) {
		if !slices.ContainsFunc(class, func(x int64) bool { return !isRegularByHand(g, form, x) }) {
			classes = append(classes, class)
		}
	}
	return elements, classes
}

// checkFactorSet compares all that the chapter tells of a factor set with what is found by hand.
func checkFactorSet(t *testing.T, what string, g impl.Group, m int64, f impl.Cochain) {
	t.Helper()
	want := formByHand(g, m, f)
	elements, classes := regularByHand(g, want)
	if got := formOf(t, g, m, f); !equalLists(got, want) {
		t.Errorf("FormOf(%s, %d, %v) = %v, not %v", what, m, f, got, want)
	}
	if got := isSymmetric(t, g, m, f); got != isSymmetricByHand(g, f) {
		t.Errorf("IsSymmetric(%s, %d, %v) = %t", what, m, f, got)
	}
	if got := regularElements(t, g, m, f); !slices.Equal(got, elements) {
		t.Errorf("RegularElements(%s, %d, %v) = %v, not %v", what, m, f, got, elements)
	}
	if got := regularClasses(t, g, m, f); !equalLists(got, classes) {
		t.Errorf("RegularClasses(%s, %d, %v) = %v, not %v", what, m, f, got, classes)
	}
}

// eachTrivial calls a function for the trivial modules of all groups with names, and of these renumbered.
func eachTrivial(t *testing.T, call func(name string, g impl.Group, m int64)) {
	t.Helper()
	for name, g := range sampleGroups(t) {
		for m := int64(2); m <= 12; m++ {
			call(name, g, m)
		}
	}
}

// eachTwist calls a function for the trivial modules of all groups with names, and of these renumbered, and for
// factor sets of all classes: the least one, and another one that differs by a boundary.
func eachTwist(t *testing.T, call func(name string, g impl.Group, m int64, f, other impl.Cochain)) {
	t.Helper()
	eachTrivial(t, func(name string, g impl.Group, m int64) {
		a := trivialByHand(g, m)
		for i, f := range classList(t, g, a, 2) {
			call(name, g, m, f, added(t, g, a, f, sampleBoundary(t, g, a, 2, int64(i)+m), 1))
		}
	})
}

// eachSmallTwist calls a function for groups with names, and M, that have so few cochains of the degree 2 that all
// of them can be looked at.
func eachSmallTwist(t *testing.T, call func(name string, g impl.Group, m int64, h handCohomology)) {
	t.Helper()
	eachTrivial(t, func(name string, g impl.Group, m int64) {
		if a := trivialByHand(g, m); areFew(g, a, 2) {
			call(name, g, m, cohomologyByHand(g, a, 2))
		}
	})
}

// groupOwnCalls calls all functions of the chapter that ask for a group alone.
func groupOwnCalls(g impl.Group) map[string][]any {
	return map[string][]any{
		"AbelianInvariants": all(impl.AbelianInvariants(g)),
		"MultiplierOf":      all(impl.MultiplierOf(g)),
	}
}

// twistCalls calls all functions of the chapter that ask for a factor set.
func twistCalls(g impl.Group, m int64, f impl.Cochain) map[string][]any {
	return map[string][]any{
		"IsSymmetric":     all(impl.IsSymmetric(g, m, f)),
		"FormOf":          all(impl.FormOf(g, m, f)),
		"RegularElements": all(impl.RegularElements(g, m, f)),
		"RegularClasses":  all(impl.RegularClasses(g, m, f)),
	}
}

// checkTwistCode reports the functions that ask for a factor set and do not return a code.
func checkTwistCode(t *testing.T, what string, code int64, g impl.Group, m int64, f impl.Cochain) {
	t.Helper()
	checkCode(t, fmt.Sprint(what, ", ", m, ", the degree ", f.Degree), code, twistCalls(g, m, f))
}

// checkTwistHas reports the functions that return an error for a factor set.
func checkTwistHas(t *testing.T, what string, g impl.Group, m int64, f impl.Cochain) {
	t.Helper()
	for call, results := range twistCalls(g, m, f) {
		if codeOf(results) != impl.ErrNone {
			t.Errorf("%s(%s, %d, %v): %v", call, what, m, f, results)
		}
	}
}

// abelianInvariants returns the abelian invariants.
func abelianInvariants(t *testing.T, g impl.Group) []int64 {
	t.Helper()
	return wanted[[]int64](t, "AbelianInvariants")(impl.AbelianInvariants(g))
}

// multiplierOf returns the invariants of the multiplier.
func multiplierOf(t *testing.T, g impl.Group) []int64 {
	t.Helper()
	return wanted[[]int64](t, "MultiplierOf")(impl.MultiplierOf(g))
}

// isSymmetric reports whether a factor set is symmetric.
func isSymmetric(t *testing.T, g impl.Group, m int64, f impl.Cochain) bool {
	t.Helper()
	return wanted[bool](t, fmt.Sprint("IsSymmetric ", m, f))(impl.IsSymmetric(g, m, f))
}

// formOf returns the form of a factor set.
func formOf(t *testing.T, g impl.Group, m int64, f impl.Cochain) [][]int64 {
	t.Helper()
	return wanted[[][]int64](t, fmt.Sprint("FormOf ", m, f))(impl.FormOf(g, m, f))
}

// regularElements returns the regular elements.
func regularElements(t *testing.T, g impl.Group, m int64, f impl.Cochain) []int64 {
	t.Helper()
	return wanted[[]int64](t, fmt.Sprint("RegularElements ", m, f))(impl.RegularElements(g, m, f))
}

// regularClasses returns the regular classes.
func regularClasses(t *testing.T, g impl.Group, m int64, f impl.Cochain) [][]int64 {
	t.Helper()
	return wanted[[][]int64](t, fmt.Sprint("RegularClasses ", m, f))(impl.RegularClasses(g, m, f))
}
