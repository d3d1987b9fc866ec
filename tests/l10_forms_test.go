package tests

import (
	"fmt"
	"slices"
	"testing"

	"loop.example/g01363/impl"
)

// TestFormsKnown: forms with values that are easy to find.
func TestFormsKnown(t *testing.T) {
	cases := []struct {
		name      string
		m         int64
		values    []int64
		symmetric bool
		form      [][]int64
		elements  []int64
		classes   [][]int64
	}{
		{"c1", 2, nil, true, [][]int64{{0}}, []int64{0}, [][]int64{{0}}},
		{"c1", 12, nil, true, [][]int64{{0}}, []int64{0}, [][]int64{{0}}},
		{"c2", 5, []int64{4}, true, [][]int64{{0, 0}, {0, 0}}, []int64{0, 1}, [][]int64{{0}, {1}}},
		{"c3", 3, []int64{0, 1, 1, 1}, true, [][]int64{{0, 0, 0}, {0, 0, 0}, {0, 0, 0}}, []int64{0, 1, 2}, [][]int64{{0}, {1}, {2}}},
		// 1 at x, y if x has the digit 2, and y the digit 1.
		{"klein", 2, []int64{0, 0, 0, 1, 0, 1, 1, 0, 1}, false, [][]int64{{0, 0, 0, 0}, {0, 0, 1, 1}, {0, 1, 0, 1}, {0, 1, 1, 0}}, []int64{0}, [][]int64{{0}}},
		// Half of 4, so that differences less than 0 have the rest 2, and not -2.
		{"klein", 4, []int64{0, 0, 0, 2, 0, 2, 2, 0, 2}, false, [][]int64{{0, 0, 0, 0}, {0, 0, 2, 2}, {0, 2, 0, 2}, {0, 2, 2, 0}}, []int64{0}, [][]int64{{0}}},
		// s3: 0, 1 and 2 are turns; of the others no two commute.
		{"s3", 7, make([]int64, 25), true, [][]int64{
			{0, 0, 0, 0, 0, 0}, {0, 0, 0, -1, -1, -1}, {0, 0, 0, -1, -1, -1},
			{0, -1, -1, 0, -1, -1}, {0, -1, -1, -1, 0, -1}, {0, -1, -1, -1, -1, 0},
		}, []int64{0, 1, 2, 3, 4, 5}, [][]int64{{0}, {1, 2}, {3, 4, 5}}},
	}
	for _, k := range cases {
		g, f := named(t, k.name), impl.Cochain{Degree: 2, Values: k.values}
		what := fmt.Sprint(k.name, ", ", k.m, ", ", k.values)
		if got := isSymmetric(t, g, k.m, f); got != k.symmetric {
			t.Errorf("IsSymmetric(%s) = %t", what, got)
		}
		if got := formOf(t, g, k.m, f); !equalLists(got, k.form) {
			t.Errorf("FormOf(%s) = %v", what, got)
		}
		if got := regularElements(t, g, k.m, f); !slices.Equal(got, k.elements) {
			t.Errorf("RegularElements(%s) = %v", what, got)
		}
		if got := regularClasses(t, g, k.m, f); !equalLists(got, k.classes) {
			t.Errorf("RegularClasses(%s) = %v", what, got)
		}
	}
}

// TestFormsOfDihedral: one half of the classes has regular elements alone, and the other half only the identity and the
// turns 1 and 3, which are conjugate: not the turn 2 of the centre.
func TestFormsOfDihedral(t *testing.T) {
	g := named(t, "dihedral")
	counts := map[string]int{}
	for _, f := range classList(t, g, trivialByHand(g, 2), 2) {
		counts[fmt.Sprint(regularElements(t, g, 2, f), regularClasses(t, g, 2, f))]++
	}
	want := map[string]int{
		"[0 1 2 3 4 5 6 7] [[0] [1 3] [2] [4 6] [5 7]]": 4,
		"[0 1 3] [[0] [1 3]]":                           4,
	}
	if fmt.Sprint(counts) != fmt.Sprint(want) {
		t.Errorf("the regular elements and classes are %v", counts)
	}
}

// TestPromise10Forms: forms of cohomologous factor sets are equal, and so are their regular elements and classes.
func TestPromise10Forms(t *testing.T) {
	changed := 0
	eachTwist(t, func(name string, g impl.Group, m int64, f, other impl.Cochain) {
		if !equalCochains(f, other) {
			changed++
		}
		if !areCohomologous(t, g, trivialByHand(g, m), f, other) {
			t.Fatalf("%s, %d: %v and %v are not cohomologous", name, m, f, other)
		}
		if first, second := formOf(t, g, m, f), formOf(t, g, m, other); !equalLists(first, second) {
			t.Errorf("%s, %d: %v has the form %v, and %v has %v", name, m, f, first, other, second)
		}
		if first, second := regularElements(t, g, m, f), regularElements(t, g, m, other); !slices.Equal(first, second) {
			t.Errorf("%s, %d: %v has the regular elements %v, and %v has %v", name, m, f, first, other, second)
		}
		if first, second := regularClasses(t, g, m, f), regularClasses(t, g, m, other); !equalLists(first, second) {
			t.Errorf("%s, %d: %v has the regular classes %v, and %v has %v", name, m, f, first, other, second)
		}
	})
	if changed < 500 {
		t.Errorf("only %d factor sets differ from the least ones", changed)
	}
}

// TestPromise10Symmetric: symmetric factor sets have forms with 0 alone, but for -1 where x y differs from y x, and
// all their elements are regular.
func TestPromise10Symmetric(t *testing.T) {
	seen := map[bool]int{}
	eachTwist(t, func(name string, g impl.Group, m int64, f, other impl.Cochain) {
		for _, h := range []impl.Cochain{f, other} {
			symmetric := isSymmetric(t, g, m, h)
			seen[symmetric]++
			if !symmetric {
				continue
			}
			if form := formOf(t, g, m, h); !equalLists(form, zeroForm(g)) {
				t.Errorf("%s, %d: the symmetric %v has the form %v", name, m, h, form)
			}
			if elements := regularElements(t, g, m, h); len(elements) != len(g.Table) {
				t.Errorf("%s, %d: the symmetric %v has the regular elements %v", name, m, h, elements)
			}
		}
	})
	if seen[true] < 300 || seen[false] < 300 {
		t.Errorf("%v factor sets are symmetric, or not", seen)
	}
}

// TestFactorSetsByHand compares the results for factor sets of all classes, and of sums of these, with what is found
// by hand.
func TestFactorSetsByHand(t *testing.T) {
	last := map[string]impl.Cochain{}
	eachTwist(t, func(name string, g impl.Group, m int64, f, other impl.Cochain) {
		checkFactorSet(t, name, g, m, f)
		checkFactorSet(t, name, g, m, other)
		key := fmt.Sprint(name, ", ", m)
		if before, found := last[key]; found {
			checkFactorSet(t, name, g, m, added(t, g, trivialByHand(g, m), before, other, 1+m/2))
		}
		last[key] = other
	})
}

// TestAllFactorSets looks at all cochains of the degree 2 where they are few: cocycles have a form, which is that of
// the least one of their class, and all others have none.
func TestAllFactorSets(t *testing.T) {
	seen := map[bool]int{}
	eachSmallTwist(t, func(name string, g impl.Group, m int64, h handCohomology) {
		for _, f := range h.cochains {
			least, isOne := h.least[valuesKey(f.Values)]
			seen[isOne]++
			if !isOne {
				checkTwistCode(t, name, impl.ErrState, g, m, f)
				continue
			}
			checkFactorSet(t, name, g, m, f)
			if form := formOf(t, g, m, f); !equalLists(form, formByHand(g, m, least)) {
				t.Errorf("%s, %d: %v has the form %v, but not the least one %v", name, m, f, form, least)
			}
		}
	})
	if seen[true] < 300 || seen[false] < 1000 {
		t.Errorf("%v cochains are factor sets, or not", seen)
	}
}

// TestZeroFactorSets: the factor set that is 0 at all lists is symmetric, and all elements are regular.
func TestZeroFactorSets(t *testing.T) {
	eachTrivial(t, func(name string, g impl.Group, m int64) {
		zero := impl.Cochain{Degree: 2, Values: make([]int64, len(cellsByHand(g, 2)))}
		if !isSymmetric(t, g, m, zero) || !equalLists(formOf(t, g, m, zero), zeroForm(g)) {
			t.Errorf("%s, %d: the factor set 0 is not symmetric", name, m)
		}
		if elements, classes := regularElements(t, g, m, zero), regularClasses(t, g, m, zero); len(elements) != len(g.Table) || !equalLists(classes, classesByHand(g)) {
			t.Errorf("%s, %d: the factor set 0 has the regular elements %v and classes %v", name, m, elements, classes)
		}
	})
}

// TestBoundariesThatAreNotSymmetric: the values of a boundary at x, y and at y, x differ where the values at x y and
// y x do. Then it is not symmetric, but its form is still that of 0.
func TestBoundariesThatAreNotSymmetric(t *testing.T) {
	for _, name := range []string{"s3", "dihedral", "quaternion"} {
		for _, g := range []impl.Group{named(t, name), turned(t, named(t, name))} {
			for m := int64(2); m <= 12; m++ {
				one := impl.Cochain{Degree: 1, Values: make([]int64, len(g.Table)-1)}
				one.Values[len(one.Values)-1] = m - 1
				f := boundaryOf(t, g, trivialByHand(g, m), one)
				if isSymmetric(t, g, m, f) || isSymmetricByHand(g, f) || !equalLists(formOf(t, g, m, f), zeroForm(g)) {
					t.Errorf("%s, %d: the boundary %v is symmetric, or has another form than 0", name, m, f)
				}
			}
		}
	}
}

// TestFormsOfSums: the form of a sum has the sums of the numbers of both forms.
func TestFormsOfSums(t *testing.T) {
	for name, g := range sampleGroups(t) {
		for _, m := range []int64{2, 4, 6, 8, 12} {
			a := trivialByHand(g, m)
			classes := classList(t, g, a, 2)
			for i := 0; i < len(classes); i += 1 + len(classes)/8 {
				f, h := classes[i], classes[len(classes)-1-i/2]
				first, second := formOf(t, g, m, f), formOf(t, g, m, h)
				want := table(int64(len(g.Table)), func(x, y int64) int64 {
					if !commuteByHand(g, x, y) {
						return -1
					}
					return restByHand(first[x][y]+3*second[x][y], m)
				})
				if got := formOf(t, g, m, added(t, g, a, f, h, 3)); !equalLists(got, want) {
					t.Errorf("%s, %d: %v and 3 times %v have the form %v, not %v", name, m, f, h, got, want)
				}
			}
		}
	}
}

// TestFormsOfExtensions: elements M x + u and M y + v of the extension have, where x y = y x, two products that differ
// by the form at x, y. They lie in the centre just if x is regular and x y = y x for all y.
func TestFormsOfExtensions(t *testing.T) {
	eachTwist(t, func(name string, g impl.Group, m int64, f, other impl.Cochain) {
		n := int64(len(g.Table))
		if n*m > impl.MaxExtension {
			return
		}
		a, form := trivialByHand(g, m), formOf(t, g, m, other)
		products := extensionTable(t, g, a, other)
		for x := range n {
			for y := range n {
				p, q := products[m*x+m-1][m*y+1], products[m*y+1][m*x+m-1]
				if commuteByHand(g, x, y) && restByHand(p-q, m) != form[x][y] || !commuteByHand(g, x, y) && form[x][y] != -1 {
					t.Errorf("%s, %d: %v has the form %v, but the products %d and %d", name, m, other, form, p, q)
				}
			}
		}
		var centre []int64
		for _, x := range regularElements(t, g, m, other) {
			if !slices.Contains(form[x], -1) {
				for u := range m {
					centre = append(centre, m*x+u)
				}
			}
		}
		if got := centreOfExtension(t, g, a, other); !slices.Equal(got, centre) {
			t.Errorf("%s, %d: the extension of %v has the centre %v, regular elements tell %v", name, m, other, got, centre)
		}
	})
}

// TestFormsOfChoices: for an element z of the centre, the factor set of the choice has at x, y with x y = y x the form 0
// just if the least elements of the cosets x and y commute.
func TestFormsOfChoices(t *testing.T) {
	seen := 0
	for name, e := range sampleGroups(t) {
		centre := wanted[[]int64](t, "CentreOf")(impl.CentreOf(e))
		for _, z := range centre[1:] {
			quotient, a := moduleOfChoice(t, e, z)
			form := formOf(t, quotient, a.M, factorSetOfChoice(t, e, z))
			least := representativesByHand(e, slices.Sorted(slices.Values(madeBy(e, z))))
			for x, row := range form {
				for y, number := range row {
					if !commuteByHand(quotient, int64(x), int64(y)) {
						continue
					}
					seen++
					if (number == 0) != commuteByHand(e, least[x], least[y]) {
						t.Errorf("%s, %d: the form is %v at %d, %d", name, z, form, x, y)
					}
				}
			}
		}
	}
	if seen < 300 {
		t.Errorf("only %d numbers of forms are looked at", seen)
	}
}

// TestRegularConjugates: elements that are conjugate to regular ones are regular, and regular classes have all regular
// elements.
func TestRegularConjugates(t *testing.T) {
	eachTwist(t, func(name string, g impl.Group, m int64, f, other impl.Cochain) {
		elements := regularElements(t, g, m, other)
		for c := range int64(len(g.Table)) {
			if moved := conjugateByHand(g, elements, c); !slices.Equal(moved, elements) {
				t.Errorf("%s, %d: %v has the regular elements %v, but conjugate ones are %v", name, m, other, elements, moved)
			}
		}
		classes := regularClasses(t, g, m, other)
		if whole := slices.Sorted(slices.Values(slices.Concat(classes...))); !slices.Equal(whole, elements) {
			t.Errorf("%s, %d: %v has the regular elements %v, but the classes %v", name, m, other, elements, classes)
		}
		if !areAscending(classes) || len(classes) == 0 || !slices.Equal(classes[0], []int64{0}) {
			t.Errorf("%s, %d: %v has the regular classes %v", name, m, other, classes)
		}
	})
}
