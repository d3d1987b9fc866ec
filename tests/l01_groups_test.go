package tests

import (
	"fmt"
	"math"
	"slices"
	"strings"
	"testing"

	"loop.example/g01363/impl"
)

func TestErrorCodes(t *testing.T) {
	codes := []int64{impl.ErrNone, impl.ErrInvalid, impl.ErrRange, impl.ErrLimit, impl.ErrNotFound, impl.ErrState, impl.ErrSyntax}
	if !slices.Equal(codes, []int64{0, 1, 2, 3, 4, 5, 6}) || impl.MaxOrder != 8 {
		t.Errorf("constants: %v, %d", codes, impl.MaxOrder)
	}
}

func TestIsGroup(t *testing.T) {
	for name, g := range sampleGroups(t) {
		if !impl.IsGroup(g) {
			t.Errorf("%s is a group", name)
		}
	}
	for name, g := range notGroups() {
		if impl.IsGroup(g) {
			t.Errorf("%s: no group", name)
		}
	}
}

// TestIsGroupOfOrderThree looks at all tables with three rows: just one is a group.
func TestIsGroupOfOrderThree(t *testing.T) {
	count := 0
	for _, l := range lists(9, 3) {
		if impl.IsGroup(impl.Group{Table: [][]int64{l[:3], l[3:6], l[6:]}}) {
			count++
		}
	}
	if count != 1 {
		t.Errorf("%d groups of the order 3", count)
	}
}

// TestIsGroupWithOneChange changes single products of a group, which never leaves a group.
func TestIsGroupWithOneChange(t *testing.T) {
	for name, g := range sampleGroups(t) {
		n := int64(len(g.Table))
		for a := range n {
			for b := range n {
				for c := range n {
					h := impl.Group{Table: table(n, func(x, y int64) int64 { return g.Table[x][y] })}
					h.Table[a][b] = c
					if impl.IsGroup(h) != (c == g.Table[a][b]) {
						t.Errorf("%s with the product %d of %d and %d", name, c, a, b)
					}
				}
			}
		}
	}
}

// TestInvalidGroups asks each function for what is no group, beside numbers and lists that are out
// of range, too: ErrInvalid is asked first.
func TestInvalidGroups(t *testing.T) {
	c2 := named(t, "c2")
	for name, g := range notGroups() {
		calls := map[string][]any{
			"ProductOf":              all(impl.ProductOf(g, 0, -1)),
			"PowerOf":                all(impl.PowerOf(g, -1, math.MinInt64)),
			"OrdersOf":               all(impl.OrdersOf(g)),
			"IsAbelian":              all(impl.IsAbelian(g)),
			"CentreOf":               all(impl.CentreOf(g)),
			"SubgroupOf":             all(impl.SubgroupOf(g, []int64{1, 0})),
			"SubgroupsOf":            all(impl.SubgroupsOf(g)),
			"IsNormal":               all(impl.IsNormal(g, []int64{1, 0})),
			"IsNormal, no subgroup":  all(impl.IsNormal(g, nil)),
			"QuotientOf":             all(impl.QuotientOf(g, []int64{1, 0})),
			"QuotientOf, no set":     all(impl.QuotientOf(g, nil)),
			"ClassesOf":              all(impl.ClassesOf(g)),
			"DerivedOf":              all(impl.DerivedOf(g)),
			"DirectProduct, first":   all(impl.DirectProduct(g, named(t, "c8"))),
			"DirectProduct, second":  all(impl.DirectProduct(named(t, "c8"), g)),
			"IsHomomorphism, first":  all(impl.IsHomomorphism(g, c2, []int64{9})),
			"IsHomomorphism, second": all(impl.IsHomomorphism(c2, g, []int64{9})),
			"HomomorphismsOf, first": all(impl.HomomorphismsOf(g, c2)),
			"HomomorphismsOf, other": all(impl.HomomorphismsOf(c2, g)),
			"FindIsomorphism, first": all(impl.FindIsomorphism(g, c2)),
			"FindIsomorphism, other": all(impl.FindIsomorphism(c2, g)),
			"RenumberGroup":          all(impl.RenumberGroup(g, []int64{1, 0})),
			"GroupText":              all(impl.GroupText(g)),
		}
		for call, results := range calls {
			if !failed(results, impl.ErrInvalid) {
				t.Errorf("%s of %s: %v", call, name, results)
			}
		}
	}
}

// badNumbers returns numbers that are no elements of a group of n elements.
func badNumbers(n int64) []int64 {
	return []int64{-1, n, n + 1, math.MinInt64, math.MaxInt64}
}

func TestProductOf(t *testing.T) {
	for name, g := range sampleGroups(t) {
		n := int64(len(g.Table))
		for a := range n {
			for b := range n {
				if c, code := impl.ProductOf(g, a, b); c != g.Table[a][b] || code != impl.ErrNone {
					t.Errorf("%s: ProductOf(%d, %d) = %d, %d", name, a, b, c, code)
				}
			}
			for _, bad := range badNumbers(n) {
				if !failed(all(impl.ProductOf(g, a, bad)), impl.ErrRange) || !failed(all(impl.ProductOf(g, bad, a)), impl.ErrRange) {
					t.Errorf("%s: ProductOf with %d and %d", name, a, bad)
				}
			}
		}
	}
}

func TestPowerOf(t *testing.T) {
	for name, g := range sampleGroups(t) {
		n := int64(len(g.Table))
		for a := range n {
			up, down := int64(0), int64(0)
			for k := range int64(40) {
				if p, code := impl.PowerOf(g, a, k); p != up || code != impl.ErrNone {
					t.Errorf("%s: PowerOf(%d, %d) = %d, %d", name, a, k, p, code)
				}
				if p, code := impl.PowerOf(g, a, -k); p != down || code != impl.ErrNone {
					t.Errorf("%s: PowerOf(%d, %d) = %d, %d", name, a, -k, p, code)
				}
				up, down = g.Table[up][a], g.Table[down][byHand(g, a)]
			}
		}
	}
}

func TestPowerOfBounds(t *testing.T) {
	c7 := named(t, "c7")
	for k, want := range map[int64]int64{1000000: 1, 999999: 0, -1000000: 6, -999999: 0, 0: 0, 1: 1, -1: 6} {
		if p, code := impl.PowerOf(c7, 1, k); p != want || code != impl.ErrNone {
			t.Errorf("PowerOf(1, %d) = %d, %d", k, p, code)
		}
	}
	for _, k := range []int64{1000001, -1000001, math.MaxInt64, math.MinInt64} {
		if !failed(all(impl.PowerOf(c7, 1, k)), impl.ErrRange) {
			t.Errorf("PowerOf(1, %d) is out of range", k)
		}
	}
	for _, a := range badNumbers(7) {
		if !failed(all(impl.PowerOf(c7, a, 1)), impl.ErrRange) {
			t.Errorf("PowerOf(%d, 1) is out of range", a)
		}
	}
}

func TestOrdersOf(t *testing.T) {
	wanted := map[string][]int64{
		"c1":         {1},
		"c2":         {1, 2},
		"c5":         {1, 5, 5, 5, 5},
		"c6":         {1, 6, 3, 2, 3, 6},
		"c8":         {1, 8, 4, 8, 2, 8, 4, 8},
		"klein":      {1, 2, 2, 2},
		"cube":       {1, 2, 2, 2, 2, 2, 2, 2},
		"c2c4":       {1, 4, 2, 4, 2, 4, 2, 4},
		"s3":         {1, 3, 3, 2, 2, 2},
		"dihedral":   {1, 4, 2, 4, 2, 2, 2, 2},
		"quaternion": {1, 4, 2, 4, 4, 4, 4, 4},
	}
	for name, want := range wanted {
		if l, code := impl.OrdersOf(named(t, name)); !slices.Equal(l, want) || code != impl.ErrNone {
			t.Errorf("OrdersOf(%s) = %v, %d", name, l, code)
		}
	}
}

// TestPromise1Orders: orders of elements and of subgroups divide that of the group.
func TestPromise1Orders(t *testing.T) {
	for name, g := range sampleGroups(t) {
		n := len(g.Table)
		orders, code := impl.OrdersOf(g)
		if code != impl.ErrNone || len(orders) != n || orders[0] != 1 {
			t.Fatalf("%s: OrdersOf = %v, %d", name, orders, code)
		}
		for a, k := range orders {
			if n%int(k) != 0 {
				t.Errorf("%s: the order %d of %d", name, k, a)
			}
			made, _ := impl.SubgroupOf(g, []int64{int64(a)})
			if int64(len(made)) != k {
				t.Errorf("%s: %d has the order %d, and makes %v", name, a, k, made)
			}
		}
		subgroups, code := impl.SubgroupsOf(g)
		if code != impl.ErrNone || len(subgroups) == 0 {
			t.Errorf("%s: SubgroupsOf = %v, %d", name, subgroups, code)
		}
		for _, l := range subgroups {
			if n%len(l) != 0 {
				t.Errorf("%s: the subgroup %v", name, l)
			}
		}
	}
}

func TestIsAbelianAndCentreOf(t *testing.T) {
	centres := map[string][]int64{"s3": {0}, "dihedral": {0, 2}, "quaternion": {0, 2}}
	for _, name := range allNames {
		g := named(t, name)
		want, small := centres[name]
		if !small {
			for a := range g.Table {
				want = append(want, int64(a))
			}
		}
		if l, code := impl.CentreOf(g); !slices.Equal(l, want) || code != impl.ErrNone {
			t.Errorf("CentreOf(%s) = %v, %d", name, l, code)
		}
		if yes, code := impl.IsAbelian(g); yes == small || code != impl.ErrNone {
			t.Errorf("IsAbelian(%s) = %v, %d", name, yes, code)
		}
	}
}

// isSubgroupByHand reports whether a list has 0 and all products of its elements.
func isSubgroupByHand(g impl.Group, list []int64) bool {
	for _, a := range list {
		for _, b := range list {
			if !slices.Contains(list, g.Table[a][b]) {
				return false
			}
		}
	}
	return slices.Contains(list, 0)
}

// isNormalByHand reports whether a list has all a b a', for its elements b.
func isNormalByHand(g impl.Group, list []int64) bool {
	for _, b := range list {
		for a := range int64(len(g.Table)) {
			if !slices.Contains(list, g.Table[g.Table[a][b]][byHand(g, a)]) {
				return false
			}
		}
	}
	return true
}

// subgroupsByHand returns all subgroups in their order.
func subgroupsByHand(g impl.Group) [][]int64 {
	var found [][]int64
	for _, l := range sublists(int64(len(g.Table))) {
		if isSubgroupByHand(g, l) {
			found = append(found, l)
		}
	}
	slices.SortFunc(found, func(a, b []int64) int {
		if len(a) != len(b) {
			return len(a) - len(b)
		}
		return slices.Compare(a, b)
	})
	return found
}

func TestSubgroupsOf(t *testing.T) {
	for name, g := range sampleGroups(t) {
		if l, code := impl.SubgroupsOf(g); !equalLists(l, subgroupsByHand(g)) || code != impl.ErrNone {
			t.Errorf("SubgroupsOf(%s) = %v, %d", name, l, code)
		}
	}
	want := [][]int64{{0}, {0, 3}, {0, 4}, {0, 5}, {0, 1, 2}, {0, 1, 2, 3, 4, 5}}
	if l, code := impl.SubgroupsOf(named(t, "s3")); !equalLists(l, want) || code != impl.ErrNone {
		t.Errorf("SubgroupsOf(s3) = %v, %d", l, code)
	}
}

// hasAll reports whether a list has all elements of another one.
func hasAll(list, part []int64) bool {
	return !slices.ContainsFunc(part, func(a int64) bool { return !slices.Contains(list, a) })
}

// TestSubgroupOf: of the subgroups with all elements of a set, in their order, the first one is
// least, as all others have it.
func TestSubgroupOf(t *testing.T) {
	for name, g := range sampleGroups(t) {
		subgroups := subgroupsByHand(g)
		for _, set := range sublists(int64(len(g.Table))) {
			first := slices.IndexFunc(subgroups, func(l []int64) bool { return hasAll(l, set) })
			if l, code := impl.SubgroupOf(g, set); !slices.Equal(l, subgroups[first]) || code != impl.ErrNone {
				t.Errorf("SubgroupOf(%s, %v) = %v, %d", name, set, l, code)
			}
		}
	}
	if l, code := impl.SubgroupOf(named(t, "c8"), nil); !slices.Equal(l, []int64{0}) || code != impl.ErrNone {
		t.Errorf("SubgroupOf with no elements = %v, %d", l, code)
	}
}

// notSets returns lists that are no ascending lists of different elements of a group of n elements.
func notSets(n int64) [][]int64 {
	bad := [][]int64{
		{0, 0}, {n - 1, n - 1}, {n - 1, 0, 0}, {0, n}, {-1, 0}, {-1}, {n}, {math.MinInt64, 0}, {0, math.MaxInt64},
		make([]int64, 100),
	}
	if n > 1 {
		bad = append(bad, []int64{1, 0}, []int64{0, 1, 0}, []int64{0, 1, 1})
	}
	return bad
}

func TestListsThatAreNoSets(t *testing.T) {
	for name, g := range sampleGroups(t) {
		for _, bad := range notSets(int64(len(g.Table))) {
			if !failed(all(impl.SubgroupOf(g, bad)), impl.ErrRange) {
				t.Errorf("SubgroupOf(%s, %v) is out of range", name, bad)
			}
			if !failed(all(impl.IsNormal(g, bad)), impl.ErrRange) {
				t.Errorf("IsNormal(%s, %v) is out of range", name, bad)
			}
			if !failed(all(impl.QuotientOf(g, bad)), impl.ErrRange) {
				t.Errorf("QuotientOf(%s, %v) is out of range", name, bad)
			}
		}
	}
}

func TestIsNormal(t *testing.T) {
	for name, g := range sampleGroups(t) {
		for _, l := range sublists(int64(len(g.Table))) {
			results := all(impl.IsNormal(g, l))
			if !isSubgroupByHand(g, l) {
				if !failed(results, impl.ErrState) {
					t.Errorf("IsNormal(%s, %v) = %v", name, l, results)
				}
			} else if results[0] != isNormalByHand(g, l) || results[1] != int64(impl.ErrNone) {
				t.Errorf("IsNormal(%s, %v) = %v", name, l, results)
			}
		}
	}
	if !failed(all(impl.IsNormal(named(t, "c1"), nil)), impl.ErrState) {
		t.Errorf("a set with no elements is no subgroup")
	}
	if yes, code := impl.IsNormal(named(t, "dihedral"), []int64{0, 4}); yes || code != impl.ErrNone {
		t.Errorf("IsNormal(dihedral, 0 4) = %v, %d", yes, code)
	}
}

// cosetByHand returns the coset of an element.
func cosetByHand(g impl.Group, a int64, set []int64) []int64 {
	var coset []int64
	for _, b := range set {
		coset = append(coset, g.Table[a][b])
	}
	slices.Sort(coset)
	return coset
}

// checkCosets checks that cosets are numbered from 0 on in the order of their least elements.
func checkCosets(t *testing.T, name string, g impl.Group, set, numbers []int64) {
	t.Helper()
	var cosets [][]int64
	for a := range int64(len(g.Table)) {
		coset := cosetByHand(g, a, set)
		i := slices.IndexFunc(cosets, func(l []int64) bool { return slices.Equal(l, coset) })
		if i < 0 {
			i = len(cosets)
			cosets = append(cosets, coset)
		}
		if numbers[a] != int64(i) {
			t.Errorf("QuotientOf(%s, %v): numbers %v", name, set, numbers)
		}
	}
}

// TestPromise1Quotients: quotients are groups, with homomorphisms to them.
func TestPromise1Quotients(t *testing.T) {
	for name, g := range sampleGroups(t) {
		for _, l := range sublists(int64(len(g.Table))) {
			q, numbers, code := impl.QuotientOf(g, l)
			if !isSubgroupByHand(g, l) || !isNormalByHand(g, l) {
				if !failed(all(q, numbers, code), impl.ErrState) {
					t.Errorf("QuotientOf(%s, %v) = %v, %v, %d", name, l, q, numbers, code)
				}
				continue
			}
			if code != impl.ErrNone || !impl.IsGroup(q) || len(q.Table)*len(l) != len(g.Table) {
				t.Errorf("QuotientOf(%s, %v) = %v, %v, %d", name, l, q, numbers, code)
				continue
			}
			if yes, code := impl.IsHomomorphism(g, q, numbers); !yes || code != impl.ErrNone {
				t.Errorf("QuotientOf(%s, %v): the numbers %v are no homomorphism", name, l, numbers)
				continue
			}
			checkCosets(t, name, g, l, numbers)
		}
	}
}

func TestQuotientOfExamples(t *testing.T) {
	q, numbers, code := impl.QuotientOf(named(t, "c6"), []int64{0, 3})
	if !equalLists(q.Table, [][]int64{{0, 1, 2}, {1, 2, 0}, {2, 0, 1}}) || !slices.Equal(numbers, []int64{0, 1, 2, 0, 1, 2}) || code != impl.ErrNone {
		t.Errorf("QuotientOf(c6, 0 3) = %v, %v, %d", q, numbers, code)
	}
	q, numbers, code = impl.QuotientOf(named(t, "s3"), []int64{0, 1, 2})
	if !equalLists(q.Table, [][]int64{{0, 1}, {1, 0}}) || !slices.Equal(numbers, []int64{0, 0, 0, 1, 1, 1}) || code != impl.ErrNone {
		t.Errorf("QuotientOf(s3, 0 1 2) = %v, %v, %d", q, numbers, code)
	}
	q, numbers, code = impl.QuotientOf(named(t, "c1"), []int64{0})
	if !equalLists(q.Table, [][]int64{{0}}) || !slices.Equal(numbers, []int64{0}) || code != impl.ErrNone {
		t.Errorf("QuotientOf(c1, 0) = %v, %v, %d", q, numbers, code)
	}
	for _, l := range [][]int64{{0, 3}, {0, 1}, {1}, nil} {
		if !failed(all(impl.QuotientOf(named(t, "s3"), l)), impl.ErrState) {
			t.Errorf("QuotientOf(s3, %v) has no normal subgroup", l)
		}
	}
}

func TestClassesOf(t *testing.T) {
	wanted := map[string][][]int64{
		"c1":         {{0}},
		"klein":      {{0}, {1}, {2}, {3}},
		"s3":         {{0}, {1, 2}, {3, 4, 5}},
		"dihedral":   {{0}, {1, 3}, {2}, {4, 6}, {5, 7}},
		"quaternion": {{0}, {1, 3}, {2}, {4, 6}, {5, 7}},
	}
	for name, want := range wanted {
		if l, code := impl.ClassesOf(named(t, name)); !equalLists(l, want) || code != impl.ErrNone {
			t.Errorf("ClassesOf(%s) = %v, %d", name, l, code)
		}
	}
	for name, g := range sampleGroups(t) {
		classes, code := impl.ClassesOf(g)
		if code != impl.ErrNone || !equalLists(classes, classesByHand(g)) {
			t.Errorf("ClassesOf(%s) = %v, %d", name, classes, code)
		}
	}
}

// classesByHand returns the classes of a group.
func classesByHand(g impl.Group) [][]int64 {
	var classes [][]int64
	for a := range int64(len(g.Table)) {
		var class []int64
		for c := range int64(len(g.Table)) {
			class = append(class, g.Table[g.Table[c][a]][byHand(g, c)])
		}
		slices.Sort(class)
		if class[0] == a {
			classes = append(classes, slices.Compact(class))
		}
	}
	return classes
}

func TestDerivedOf(t *testing.T) {
	wanted := map[string][]int64{"s3": {0, 1, 2}, "dihedral": {0, 2}, "quaternion": {0, 2}}
	for _, name := range allNames {
		want, found := wanted[name]
		if !found {
			want = []int64{0}
		}
		if l, code := impl.DerivedOf(named(t, name)); !slices.Equal(l, want) || code != impl.ErrNone {
			t.Errorf("DerivedOf(%s) = %v, %d", name, l, code)
		}
	}
}

// TestDerivedOfIsLeast: it is the least normal subgroup with an abelian quotient.
func TestDerivedOfIsLeast(t *testing.T) {
	for name, g := range sampleGroups(t) {
		derived, code := impl.DerivedOf(g)
		if code != impl.ErrNone {
			t.Errorf("DerivedOf(%s): code %d", name, code)
		}
		for _, l := range subgroupsByHand(g) {
			if q, _, code := impl.QuotientOf(g, l); code == impl.ErrNone {
				if abelian, _ := impl.IsAbelian(q); abelian != hasAll(l, derived) {
					t.Errorf("DerivedOf(%s) = %v beside %v", name, derived, l)
				}
			}
		}
	}
}

func TestDirectProduct(t *testing.T) {
	for _, first := range allNames {
		for _, second := range allNames {
			g, h := named(t, first), named(t, second)
			n, m := int64(len(g.Table)), int64(len(h.Table))
			p, code := impl.DirectProduct(g, h)
			if n*m > 8 {
				if !failed(all(p, code), impl.ErrLimit) {
					t.Errorf("DirectProduct(%s, %s) = %v, %d", first, second, p, code)
				}
				continue
			}
			want := table(n*m, func(a, b int64) int64 { return m*g.Table[a/m][b/m] + h.Table[a%m][b%m] })
			if !equalLists(p.Table, want) || code != impl.ErrNone || !impl.IsGroup(p) {
				t.Errorf("DirectProduct(%s, %s) = %v, %d", first, second, p, code)
			}
		}
	}
	if g, code := impl.DirectProduct(named(t, "c2"), named(t, "c4")); !equalLists(g.Table, named(t, "c2c4").Table) || code != impl.ErrNone {
		t.Errorf("DirectProduct(c2, c4) = %v, %d", g, code)
	}
	if g, code := impl.DirectProduct(named(t, "klein"), named(t, "c2")); !equalLists(g.Table, named(t, "cube").Table) || code != impl.ErrNone {
		t.Errorf("DirectProduct(klein, c2) = %v, %d", g, code)
	}
}

// isHomomorphismByHand reports whether the images of all products are those of the images.
func isHomomorphismByHand(g, h impl.Group, images []int64) bool {
	for a, x := range images {
		for b, y := range images {
			if images[g.Table[a][b]] != h.Table[x][y] {
				return false
			}
		}
	}
	return true
}

// smallGroups returns groups with few lists of images.
func smallGroups(t *testing.T) map[string]impl.Group {
	t.Helper()
	groups := map[string]impl.Group{}
	for _, name := range []string{"c1", "c2", "c3", "c4", "klein", "c5", "s3"} {
		groups[name] = named(t, name)
	}
	groups["c4 turned"] = turned(t, named(t, "c4"))
	groups["s3 turned"] = turned(t, named(t, "s3"))
	return groups
}

// TestHomomorphismsByHand looks at all lists of images of small groups.
func TestHomomorphismsByHand(t *testing.T) {
	for first, g := range smallGroups(t) {
		for second, h := range smallGroups(t) {
			var found, isomorphisms [][]int64
			for _, l := range lists(int64(len(g.Table)), int64(len(h.Table))) {
				want := isHomomorphismByHand(g, h, l)
				if yes, code := impl.IsHomomorphism(g, h, l); yes != want || code != impl.ErrNone {
					t.Errorf("IsHomomorphism(%s, %s, %v) = %v, %d", first, second, l, yes, code)
				}
				if want {
					found = append(found, l)
				}
				if want && len(g.Table) == len(h.Table) && len(slices.Compact(slices.Sorted(slices.Values(l)))) == len(l) {
					isomorphisms = append(isomorphisms, l)
				}
			}
			if l, code := impl.HomomorphismsOf(g, h); !equalLists(l, found) || code != impl.ErrNone {
				t.Errorf("HomomorphismsOf(%s, %s) = %v, %d", first, second, l, code)
			}
			results := all(impl.FindIsomorphism(g, h))
			if len(isomorphisms) == 0 && !failed(results, impl.ErrNotFound) {
				t.Errorf("FindIsomorphism(%s, %s) = %v", first, second, results)
			}
			if len(isomorphisms) > 0 && (!slices.Equal(results[0].([]int64), isomorphisms[0]) || results[1] != int64(impl.ErrNone)) {
				t.Errorf("FindIsomorphism(%s, %s) = %v", first, second, results)
			}
		}
	}
}

func TestHomomorphismsOfCounts(t *testing.T) {
	wanted := map[[2]string]int{
		{"c1", "cube"}: 1, {"cube", "c1"}: 1, {"c8", "c8"}: 8, {"c8", "c2"}: 2, {"c7", "c8"}: 1,
		{"cube", "cube"}: 512, {"klein", "cube"}: 64, {"cube", "klein"}: 64, {"c2c4", "c2c4"}: 32,
		{"dihedral", "dihedral"}: 36, {"quaternion", "quaternion"}: 28, {"quaternion", "klein"}: 16, {"c4", "quaternion"}: 8,
	}
	for names, want := range wanted {
		g, h := named(t, names[0]), named(t, names[1])
		l, code := impl.HomomorphismsOf(g, h)
		if len(l) != want || code != impl.ErrNone {
			t.Errorf("HomomorphismsOf(%s, %s): %d, %d", names[0], names[1], len(l), code)
		}
		if !slices.IsSortedFunc(l, slices.Compare[[]int64]) || len(slices.CompactFunc(l, slices.Equal[[]int64])) != want {
			t.Errorf("HomomorphismsOf(%s, %s) are not in order", names[0], names[1])
		}
		for _, images := range l {
			if !isHomomorphismByHand(g, h, images) {
				t.Errorf("HomomorphismsOf(%s, %s) has %v", names[0], names[1], images)
			}
		}
	}
}

func TestIsHomomorphismRange(t *testing.T) {
	c3, c2 := named(t, "c3"), named(t, "c2")
	for _, bad := range [][]int64{nil, {}, {0, 0}, {0, 0, 0, 0}, {0, 0, 2}, {0, 0, -1}, {math.MinInt64, 0, 0}, {0, math.MaxInt64, 0}, make([]int64, 1000)} {
		if !failed(all(impl.IsHomomorphism(c3, c2, bad)), impl.ErrRange) {
			t.Errorf("IsHomomorphism(c3, c2, %v) is out of range", bad)
		}
	}
	for _, l := range [][]int64{{1, 1, 1}, {0, 1, 1}, {0, 1, 0}} {
		if yes, code := impl.IsHomomorphism(c3, c2, l); yes || code != impl.ErrNone {
			t.Errorf("IsHomomorphism(c3, c2, %v) = %v, %d", l, yes, code)
		}
	}
}

// TestFindIsomorphism: groups with different names are not isomorphic, and renumbered ones are.
func TestFindIsomorphism(t *testing.T) {
	for _, first := range allNames {
		for _, second := range allNames {
			g, h := named(t, first), turned(t, named(t, second))
			l, code := impl.FindIsomorphism(g, h)
			if first != second {
				if !failed(all(l, code), impl.ErrNotFound) {
					t.Errorf("FindIsomorphism(%s, %s) = %v, %d", first, second, l, code)
				}
				continue
			}
			if code != impl.ErrNone || !isHomomorphismByHand(g, h, l) {
				t.Errorf("FindIsomorphism(%s, %s) = %v, %d", first, second, l, code)
			}
			if k, code := impl.RenumberGroup(g, l); !equalLists(k.Table, h.Table) || code != impl.ErrNone {
				t.Errorf("FindIsomorphism(%s, %s) = %v leads to %v", first, second, l, k)
			}
		}
	}
}

// TestFindIsomorphismIsLeast: no isomorphism among all homomorphisms is less.
func TestFindIsomorphismIsLeast(t *testing.T) {
	for _, name := range allNames {
		g, h := named(t, name), turned(t, named(t, name))
		least, _ := impl.FindIsomorphism(g, h)
		homomorphisms, _ := impl.HomomorphismsOf(g, h)
		first := slices.IndexFunc(homomorphisms, func(l []int64) bool {
			return len(slices.Compact(slices.Sorted(slices.Values(l)))) == len(l)
		})
		if first < 0 || !slices.Equal(least, homomorphisms[first]) {
			t.Errorf("FindIsomorphism(%s, %s turned) = %v", name, name, least)
		}
	}
}

func TestRenumberGroup(t *testing.T) {
	g := named(t, "s3")
	for _, p := range lists(6, 6) {
		h, code := impl.RenumberGroup(g, p)
		if p[0] != 0 || len(slices.Compact(slices.Sorted(slices.Values(p)))) != 6 {
			if !failed(all(h, code), impl.ErrRange) {
				t.Errorf("RenumberGroup(s3, %v) = %v, %d", p, h, code)
			}
			continue
		}
		if code != impl.ErrNone || !impl.IsGroup(h) || !isHomomorphismByHand(g, h, p) {
			t.Errorf("RenumberGroup(s3, %v) = %v, %d", p, h, code)
		}
	}
	for _, bad := range [][]int64{nil, {0}, {0, 1, 2, 3, 4}, {0, 1, 2, 3, 4, 5, 6}, {0, 1, 2, 3, 4, 6}, {0, 1, 2, 3, 4, -5}, {0, 1, 2, 3, 4, math.MinInt64}, {0, 1, 2, 3, 4, math.MaxInt64}} {
		if !failed(all(impl.RenumberGroup(g, bad)), impl.ErrRange) {
			t.Errorf("RenumberGroup(s3, %v) is out of range", bad)
		}
	}
	if h, code := impl.RenumberGroup(named(t, "c4"), []int64{0, 2, 1, 3}); !equalLists(h.Table, [][]int64{{0, 1, 2, 3}, {1, 0, 3, 2}, {2, 3, 1, 0}, {3, 2, 0, 1}}) || code != impl.ErrNone {
		t.Errorf("RenumberGroup(c4, 0 2 1 3) = %v, %d", h, code)
	}
	if h, code := impl.RenumberGroup(named(t, "c1"), []int64{0}); !equalLists(h.Table, [][]int64{{0}}) || code != impl.ErrNone {
		t.Errorf("RenumberGroup(c1, 0) = %v, %d", h, code)
	}
}

func TestNamedGroup(t *testing.T) {
	wanted := map[string]string{
		"c1":         "0",
		"c2":         "01,10",
		"c3":         "012,120,201",
		"c4":         "0123,1230,2301,3012",
		"c5":         "01234,12340,23401,34012,40123",
		"c6":         "012345,123450,234501,345012,450123,501234",
		"c7":         "0123456,1234560,2345601,3456012,4560123,5601234,6012345",
		"c8":         "01234567,12345670,23456701,34567012,45670123,56701234,67012345,70123456",
		"klein":      "0123,1032,2301,3210",
		"cube":       "01234567,10325476,23016745,32107654,45670123,54761032,67452301,76543210",
		"c2c4":       "01234567,12305674,23016745,30127456,45670123,56741230,67452301,74563012",
		"s3":         "012345,120534,201453,345012,453201,534120",
		"dihedral":   "01234567,12307456,23016745,30125674,45670123,56743012,67452301,74561230",
		"quaternion": "01234567,12307456,23016745,30125674,45672301,56741230,67450123,74563012",
	}
	if len(wanted) != len(allNames) {
		t.Errorf("there are %d names", len(allNames))
	}
	for name, want := range wanted {
		if s, code := impl.GroupText(named(t, name)); s != want || code != impl.ErrNone {
			t.Errorf("GroupText(%s) = %q, %d", name, s, code)
		}
	}
	for _, bad := range []string{"", "c", "c0", "c9", "c01", "c2 ", " c2", "C2", "c10", "Klein", "kleinc2", "klein\n", "s4", "c4c2", "c2c4c2", "quaternions", "0", "01,10", "\x00", strings.Repeat("c", 100000)} {
		if !failed(all(impl.NamedGroup(bad)), impl.ErrNotFound) {
			t.Errorf("NamedGroup(%q) has no group", bad)
		}
	}
}

// TestPromise1Texts: groups come back from their texts.
func TestPromise1Texts(t *testing.T) {
	for name, g := range sampleGroups(t) {
		text, code := impl.GroupText(g)
		if code != impl.ErrNone {
			t.Errorf("GroupText(%s): code %d", name, code)
		}
		if h, code := impl.ParseGroup(text); !equalLists(h.Table, g.Table) || code != impl.ErrNone {
			t.Errorf("ParseGroup(%q) = %v, %d", text, h, code)
		}
	}
}

// TestParseGroupWithOneChange leaves out, adds and replaces single characters of texts, which never
// leaves the text of a group.
func TestParseGroupWithOneChange(t *testing.T) {
	for _, g := range sampleGroups(t) {
		text, _ := impl.GroupText(g)
		for i := range len(text) + 1 {
			for _, c := range []string{"", "0", "1", "7", "8", "9", ",", " ", "\n", "-", "/", ":", "\x00", "\xff", "a"} {
				changed := []string{text[:i] + c + text[i:]}
				if i < len(text) {
					changed = append(changed, text[:i]+c+text[i+1:])
				}
				for _, s := range changed {
					if s != text && !failed(all(impl.ParseGroup(s)), impl.ErrSyntax) {
						t.Errorf("ParseGroup(%q) has no group", s)
					}
				}
			}
		}
	}
}

func TestParseGroupErrors(t *testing.T) {
	nine := "012345678,123456780,234567801,345678012,456780123,567801234,678012345,780123456,801234567"
	bad := []string{
		"", ",", ",,", "1", "00", "0,", ",0", "0,0", "01", "01,1", "01,11", "10,01", "00,11", "01,01", "01;10", "01,10,", ",01,10", "01,,10", "01,10\n", " 01,10",
		"012,120", "012,120,20", "01,120,201", "012345678", nine, "c2", "\u0660", "01234,10342,24013,32401,43120",
		strings.Repeat(",", 1000000), strings.Repeat("0", 1000000), strings.Repeat("01,10,", 1000),
	}
	for _, s := range bad {
		if !failed(all(impl.ParseGroup(s)), impl.ErrSyntax) {
			t.Errorf("ParseGroup(%.100q) has no group", s)
		}
	}
	for _, s := range []string{"0", "01,10", "012,120,201"} {
		if g, code := impl.ParseGroup(s); !impl.IsGroup(g) || code != impl.ErrNone {
			t.Errorf("ParseGroup(%q) = %v, %d", s, g, code)
		}
	}
}

// spare returns a copy of a list with marked spare capacity behind it.
func spare(list []int64) []int64 {
	long := append(slices.Clone(list), 77, 77, 77)
	return long[:len(list)]
}

// overwrite puts a mark into a list and into its spare capacity.
func overwrite(list []int64) {
	list = list[:cap(list)]
	for i := range list {
		list[i] = -5
	}
}

// TestRowsShareNoMemory overwrites rows of results: neither other rows nor other results change.
func TestRowsShareNoMemory(t *testing.T) {
	g := named(t, "s3")
	groups := map[string]func() [][]int64{
		"NamedGroup":      func() [][]int64 { r, _ := impl.NamedGroup("s3"); return r.Table },
		"ParseGroup":      func() [][]int64 { r, _ := impl.ParseGroup("012,120,201"); return r.Table },
		"DirectProduct":   func() [][]int64 { r, _ := impl.DirectProduct(g, named(t, "c1")); return r.Table },
		"QuotientOf":      func() [][]int64 { r, l, _ := impl.QuotientOf(g, []int64{0}); return append(r.Table, l) },
		"RenumberGroup":   func() [][]int64 { r, _ := impl.RenumberGroup(g, []int64{0, 1, 2, 3, 4, 5}); return r.Table },
		"SubgroupsOf":     func() [][]int64 { r, _ := impl.SubgroupsOf(g); return r },
		"ClassesOf":       func() [][]int64 { r, _ := impl.ClassesOf(g); return r },
		"HomomorphismsOf": func() [][]int64 { r, _ := impl.HomomorphismsOf(g, g); return r },
	}
	checkSharing(t, groups, func() string { return fmt.Sprint(g) })
}

// spareGroup returns a group whose rows have marked spare capacity.
func spareGroup(g impl.Group) impl.Group {
	var rows [][]int64
	for _, row := range g.Table {
		rows = append(rows, spare(row))
	}
	return impl.Group{Table: append(rows, []int64{77})[:len(rows)]}
}

// wholeGroup tells a group and its spare capacity as a text.
func wholeGroup(g impl.Group) string {
	rows := g.Table[:len(g.Table)+1]
	whole := fmt.Sprint(rows[len(g.Table)])
	for _, row := range g.Table {
		whole += fmt.Sprint(row[:len(row)+3])
	}
	return whole
}

func TestArgumentsAreKept(t *testing.T) {
	for _, name := range allNames {
		g := spareGroup(named(t, name))
		n := int64(len(g.Table))
		set, images := spare([]int64{0}), spare(make([]int64, n))
		p := make([]int64, n)
		for a := range n {
			p[a] = a
		}
		p = spare(p)
		before := wholeGroup(g) + fmt.Sprint(set[:4], images[:n+3], p[:n+3])
		impl.IsGroup(g)
		impl.ProductOf(g, 0, 0)
		impl.PowerOf(g, 0, 5)
		impl.OrdersOf(g)
		impl.IsAbelian(g)
		impl.CentreOf(g)
		impl.SubgroupOf(g, set)
		impl.SubgroupsOf(g)
		impl.IsNormal(g, set)
		impl.QuotientOf(g, set)
		impl.ClassesOf(g)
		impl.DerivedOf(g)
		impl.DirectProduct(g, g)
		impl.IsHomomorphism(g, g, images)
		impl.HomomorphismsOf(g, g)
		impl.FindIsomorphism(g, g)
		impl.RenumberGroup(g, p)
		impl.GroupText(g)
		if wholeGroup(g)+fmt.Sprint(set[:4], images[:n+3], p[:n+3]) != before {
			t.Errorf("%s: an argument has changed", name)
		}
	}
}
