package tests

import (
	"slices"
	"testing"

	"loop.example/g01363/impl"
)

func TestMaxExtension(t *testing.T) {
	if impl.MaxExtension != 64 {
		t.Errorf("MaxExtension is %d", impl.MaxExtension)
	}
}

// TestExtensionTables: tables are as told, and those of groups with the identity 0.
func TestExtensionTables(t *testing.T) {
	eachExtension(t, func(name string, g impl.Group, a impl.Module, f impl.Cochain) {
		table := extensionTable(t, g, a, f)
		if want := extensionByHand(g, a, f); !equalLists(table, want) {
			t.Fatalf("ExtensionTable(%s, %v, %v) = %v, not %v", name, a, f, table, want)
		}
		if !isTableOfGroup(table) {
			t.Fatalf("ExtensionTable(%s, %v, %v) = %v is no table of a group", name, a, f, table)
		}
	})
}

// isTableOfGroup reports whether a table has 0 as its identity, and an inverse of each element, and
// whether brackets do not matter: for all elements of a small table, and for some of a great one.
func isTableOfGroup(table [][]int64) bool {
	count := int64(len(table))
	step := 1 + count/9
	for p, row := range table {
		if row[0] != int64(p) || table[0][p] != int64(p) || !slices.ContainsFunc(table, func(other []int64) bool { return other[p] == 0 }) {
			return false
		}
		if !slices.Contains(row, 0) {
			return false
		}
		for q, first := range row {
			for r := (int64(p) + int64(q)) % step; r < count; r += step {
				if table[first][r] != row[table[q][r]] {
					return false
				}
			}
		}
	}
	return true
}

// TestExtensionsByZeroArePairs: the extension by the value 0 has the products of pairs of chapter 5.
func TestExtensionsByZeroArePairs(t *testing.T) {
	for _, name := range []string{"c1", "c3", "klein", "s3", "quaternion"} {
		g := named(t, name)
		for _, a := range slices.Concat(modulesOf(t, g, 2), modulesOf(t, g, 8)) {
			zero := impl.Cochain{Degree: 2, Values: make([]int64, len(cellsByHand(g, 2)))}
			if table := extensionTable(t, g, a, zero); !equalLists(table, pairTable(t, g, a)) {
				t.Errorf("ExtensionTable(%s, %v, %v) = %v", name, a, zero, table)
			}
		}
	}
}

// TestExtensionGroups: up to 8 elements an extension is a group with the products of the table.
func TestExtensionGroups(t *testing.T) {
	eachCountable(t, func(name string, g impl.Group, a impl.Module, sets []impl.Cochain) {
		for _, f := range sets {
			e := extensionGroup(t, g, a, f)
			if !impl.IsGroup(e) || !equalLists(e.Table, extensionByHand(g, a, f)) || !equalLists(e.Table, extensionTable(t, g, a, f)) {
				t.Fatalf("ExtensionGroup(%s, %v, %v) = %v", name, a, f, e)
			}
		}
	})
}

// TestExtensionGroupExamples: groups that are known to be extensions, the example of chapter 6 first.
func TestExtensionGroupExamples(t *testing.T) {
	for _, example := range []struct{ name, module, cochain, kind string }{
		{"c2", "2:1,1", "2:1", "c4"},
		{"c2", "2:1,1", "2:0", "klein"},
		{"c2", "3:1,1", "2:0", "c6"},
		{"c2", "3:1,1", "2:2", "c6"},
		{"c2", "3:1,2", "2:0", "s3"},
		{"c2", "4:1,1", "2:0", "c2c4"},
		{"c2", "4:1,1", "2:1", "c8"},
		{"c2", "4:1,1", "2:2", "c2c4"},
		{"c2", "4:1,1", "2:3", "c8"},
		{"c2", "4:1,3", "2:0", "dihedral"},
		{"c2", "4:1,3", "2:2", "quaternion"},
		{"c3", "2:1,1,1", "2:0,0,0,0", "c6"},
		{"c4", "2:1,1,1,1", "2:0,0,0,0,0,0,0,0,0", "c2c4"},
		{"c4", "2:1,1,1,1", "2:0,0,1,0,1,1,1,1,1", "c8"},
		{"klein", "2:1,1,1,1", "2:0,0,0,0,0,0,0,0,0", "cube"},
		{"klein", "2:1,1,1,1", "2:1,0,1,0,0,0,1,0,1", "c2c4"},
		{"klein", "2:1,1,1,1", "2:0,0,0,1,0,1,1,0,1", "dihedral"},
		{"klein", "2:1,1,1,1", "2:1,0,1,1,1,0,0,1,1", "quaternion"},
		{"c1", "8:1", "2:", "c8"},
		{"c1", "2:1", "2:", "c2"},
	} {
		g := named(t, example.name)
		a := wanted[impl.Module](t, "ParseModule")(impl.ParseModule(g, example.module))
		f := wanted[impl.Cochain](t, "ParseCochain")(impl.ParseCochain(g, a, example.cochain))
		if kind := kindOf(t, extensionGroup(t, g, a, f)); kind != example.kind {
			t.Errorf("ExtensionGroup(%s, %s, %s) is %s, not %s", example.name, example.module, example.cochain, kind, example.kind)
		}
	}
}

// TestPromise6: an extension splits just if its factor set is bounding, and what FirstSection then returns
// is a section; it is the same one as the least cochain tells whose boundary is the opposite.
func TestPromise6(t *testing.T) {
	eachExtension(t, func(name string, g impl.Group, a impl.Module, f impl.Cochain) {
		bounding := isBounding(t, g, a, f)
		if splits(t, g, a, f) != bounding {
			t.Fatalf("Splits(%s, %v, %v) is not %v", name, a, f, bounding)
		}
		if !bounding {
			if results := all(impl.FirstSection(g, a, f)); !failed(results, impl.ErrState) {
				t.Fatalf("FirstSection(%s, %v, %v): %v", name, a, f, results)
			}
			return
		}
		section := firstSection(t, g, a, f)
		opposite := cochainByHand(g, a.M, 2, func(list []int64) int64 { return -valuesByHand(g, f)[keyByHand(list)] })
		want := append([]int64{0}, leastBounded(t, g, a, opposite).Values...)
		if !slices.Equal(section, want) || !isSectionByHand(g, a, extensionByHand(g, a, f), section) {
			t.Fatalf("FirstSection(%s, %v, %v) = %v, not %v", name, a, f, section, want)
		}
	})
}

// TestSectionsAreHomomorphisms: the elements of a section are led to as by a homomorphism of chapter 1.
func TestSectionsAreHomomorphisms(t *testing.T) {
	eachCountable(t, func(name string, g impl.Group, a impl.Module, sets []impl.Cochain) {
		for _, f := range sets {
			if !splits(t, g, a, f) {
				continue
			}
			var images []int64
			for x, u := range firstSection(t, g, a, f) {
				images = append(images, a.M*int64(x)+u)
			}
			if yes, code := impl.IsHomomorphism(g, extensionGroup(t, g, a, f), images); !yes || code != impl.ErrNone {
				t.Fatalf("the section of %s, %v, %v leads to %v", name, a, f, images)
			}
		}
	})
}

// TestFirstSectionByHand looks at all lists of a number for each element: the first section among them is
// returned, and without one the extension does not split.
func TestFirstSectionByHand(t *testing.T) {
	eachSmallList(t, func(name string, g impl.Group, a impl.Module, all [][]int64) {
		for _, f := range someFactorSets(t, g, a) {
			products := extensionByHand(g, a, f)
			i := slices.IndexFunc(all, func(list []int64) bool { return isSectionByHand(g, a, products, list) })
			if splits(t, g, a, f) != (i >= 0) {
				t.Errorf("Splits(%s, %v, %v) is not %v", name, a, f, i >= 0)
			}
			if i >= 0 {
				if section := firstSection(t, g, a, f); !slices.Equal(section, all[i]) {
					t.Errorf("FirstSection(%s, %v, %v) = %v, not %v", name, a, f, section, all[i])
				}
			} else if section, code := impl.FirstSection(g, a, f); code != impl.ErrState || len(section) != 0 {
				t.Errorf("FirstSection(%s, %v, %v) = %v, %d", name, a, f, section, code)
			}
		}
	})
}

// TestPromise13: extensions of boundaries have sections: one is the opposite of the cochain, and the first
// one is no greater.
func TestPromise13(t *testing.T) {
	eachSomeModule(t, func(name string, g impl.Group, a impl.Module) {
		if int64(len(g.Table))*a.M > 64 {
			return
		}
		for seed := range int64(3) {
			h := sampleCochain(g, a, 1, seed)
			f := boundaryByHand(g, a, h)
			list := []int64{0}
			for _, x := range h.Values {
				list = append(list, restByHand(-x, a.M))
			}
			products := extensionByHand(g, a, f)
			section := firstSection(t, g, a, f)
			if !splits(t, g, a, f) || !isSectionByHand(g, a, products, list) || !isSectionByHand(g, a, products, section) || slices.Compare(section, list) > 0 {
				t.Fatalf("FirstSection(%s, %v, %v) = %v, also %v", name, a, f, section, list)
			}
		}
	})
}

// TestFirstSectionExamples: sections that begin with the value 0, and such that do not.
func TestFirstSectionExamples(t *testing.T) {
	c2, c4 := named(t, "c2"), named(t, "c4")
	four := impl.Module{M: 4, Units: []int64{1, 1}}
	if got := firstSection(t, c2, four, impl.Cochain{Degree: 2, Values: []int64{2}}); !slices.Equal(got, []int64{0, 1}) {
		t.Errorf("FirstSection(c2, %v, 2:2) = %v", four, got)
	}
	twelve := impl.Module{M: 12, Units: []int64{1, 1}}
	if got := firstSection(t, c2, twelve, impl.Cochain{Degree: 2, Values: []int64{2}}); !slices.Equal(got, []int64{0, 5}) {
		t.Errorf("FirstSection(c2, %v, 2:2) = %v", twelve, got)
	}
	five := impl.Module{M: 5, Units: []int64{1, 2, 4, 3}}
	zero := impl.Cochain{Degree: 2, Values: make([]int64, 9)}
	if got := firstSection(t, c4, five, zero); !slices.Equal(got, []int64{0, 0, 0, 0}) {
		t.Errorf("FirstSection(c4, %v, 0) = %v", five, got)
	}
	three := impl.Module{M: 3, Units: []int64{1, 1, 1, 1}}
	f := boundaryOf(t, c4, three, impl.Cochain{Degree: 1, Values: []int64{1, 1, 1}})
	if got := firstSection(t, c4, three, f); !slices.Equal(got, []int64{0, 2, 2, 2}) {
		t.Errorf("FirstSection(c4, %v, %v) = %v", three, f, got)
	}
}

// TestOrdersAndCentres: orders are those of the elements one by one, and the centre has all elements that
// commute with all.
func TestOrdersAndCentres(t *testing.T) {
	eachExtension(t, func(name string, g impl.Group, a impl.Module, f impl.Cochain) {
		products := extensionByHand(g, a, f)
		var orders, centre []int64
		for p, row := range products {
			order := int64(1)
			for power := int64(p); power != 0; power = products[power][p] {
				order++
			}
			orders = append(orders, order)
			if !slices.ContainsFunc(products, func(other []int64) bool { return other[p] != row[other[0]] }) {
				centre = append(centre, int64(p))
			}
		}
		if got := ordersOfExtension(t, g, a, f); !slices.Equal(got, orders) {
			t.Fatalf("OrdersOfExtension(%s, %v, %v) = %v, not %v", name, a, f, got, orders)
		}
		if got := centreOfExtension(t, g, a, f); !slices.Equal(got, centre) {
			t.Fatalf("CentreOfExtension(%s, %v, %v) = %v, not %v", name, a, f, got, centre)
		}
	})
}

// TestExtensionsAsGroups: orders and centres are those of chapter 1.
func TestExtensionsAsGroups(t *testing.T) {
	eachCountable(t, func(name string, g impl.Group, a impl.Module, sets []impl.Cochain) {
		for _, f := range sets {
			e := extensionGroup(t, g, a, f)
			orders := wanted[[]int64](t, "OrdersOf")(impl.OrdersOf(e))
			centre := wanted[[]int64](t, "CentreOf")(impl.CentreOf(e))
			if !slices.Equal(ordersOfExtension(t, g, a, f), orders) || !slices.Equal(centreOfExtension(t, g, a, f), centre) {
				t.Fatalf("%s, %v, %v: orders %v, centre %v", name, a, f, ordersOfExtension(t, g, a, f), centreOfExtension(t, g, a, f))
			}
		}
	})
}

// TestExtensionOfOneElement: the group with one element has one factor set for each M, whose extension
// adds the numbers.
func TestExtensionOfOneElement(t *testing.T) {
	g, f := named(t, "c1"), impl.Cochain{Degree: 2}
	for m := int64(2); m <= 12; m++ {
		a := impl.Module{M: m, Units: []int64{1}}
		want := table(m, func(u, v int64) int64 { return (u + v) % m })
		if got := extensionTable(t, g, a, f); !equalLists(got, want) {
			t.Errorf("ExtensionTable(c1, %d) = %v", m, got)
		}
		if !splits(t, g, a, f) || !slices.Equal(firstSection(t, g, a, f), []int64{0}) {
			t.Errorf("FirstSection(c1, %d) = %v", m, firstSection(t, g, a, f))
		}
		if got := ordersOfExtension(t, g, a, f); int64(len(got)) != m || got[0] != 1 || got[1] != m {
			t.Errorf("OrdersOfExtension(c1, %d) = %v", m, got)
		}
		if got := centreOfExtension(t, g, a, f); int64(len(got)) != m || got[m-1] != m-1 {
			t.Errorf("CentreOfExtension(c1, %d) = %v", m, got)
		}
	}
}

// TestGreatExtensions: the greatest extensions, with 64 elements, and those with M = 12.
func TestGreatExtensions(t *testing.T) {
	cube, c5 := named(t, "cube"), named(t, "c5")
	eight, twelve := impl.Module{M: 8, Units: []int64{1, 3, 5, 7, 1, 3, 5, 7}}, impl.Module{M: 12, Units: []int64{1, 1, 1, 1, 1}}
	count := 0
	for _, f := range classList(t, cube, eight, 2) {
		if centre := centreOfExtension(t, cube, eight, f); centre[0] != 0 || slices.Contains(centre, 1) || !slices.Contains(centre, 4) {
			t.Errorf("CentreOfExtension(cube, %v, %v) = %v", eight, f, centre)
		}
		if splits(t, cube, eight, f) {
			count++
		}
	}
	if count != 1 {
		t.Errorf("%d of the extensions of cube and %v split", count, eight)
	}
	zero := impl.Cochain{Degree: 2, Values: make([]int64, 16)}
	orders := ordersOfExtension(t, c5, twelve, zero)
	if len(orders) != 60 || slices.Max(orders) != 60 || orders[1] != 12 || orders[12] != 5 || orders[59] != 60 {
		t.Errorf("OrdersOfExtension(c5, %v, 0) = %v", twelve, orders)
	}
	if centre := centreOfExtension(t, c5, twelve, zero); len(centre) != 60 || centre[59] != 59 {
		t.Errorf("CentreOfExtension(c5, %v, 0) = %v", twelve, centre)
	}
}

// TestCountByHand looks at the extensions of all factor sets, and tells them by the groups with names.
func TestCountByHand(t *testing.T) {
	eachCountable(t, func(name string, g impl.Group, a impl.Module, sets []impl.Cochain) {
		kinds := map[string]bool{}
		for _, f := range sets {
			kinds[kindOf(t, impl.Group{Table: extensionByHand(g, a, f)})] = true
		}
		if got := countExtensionGroups(t, g, a); got != int64(len(kinds)) {
			t.Errorf("CountExtensionGroups(%s, %v) = %d, not those of %v", name, a, got, kinds)
		}
	})
}

// TestCountExamples: known numbers; klein has eight classes, whose extensions are four groups.
func TestCountExamples(t *testing.T) {
	for _, example := range []struct {
		name, module string
		count        int64
	}{
		{"c1", "2:1", 1}, {"c1", "7:1", 1}, {"c1", "8:1", 1},
		{"c2", "2:1,1", 2}, {"c2", "3:1,1", 1}, {"c2", "3:1,2", 1}, {"c2", "4:1,1", 2}, {"c2", "4:1,3", 2},
		{"c3", "2:1,1,1", 1}, {"c4", "2:1,1,1,1", 2}, {"klein", "2:1,1,1,1", 4},
	} {
		g := named(t, example.name)
		a := wanted[impl.Module](t, "ParseModule")(impl.ParseModule(g, example.module))
		if got := countExtensionGroups(t, g, a); got != example.count {
			t.Errorf("CountExtensionGroups(%s, %s) = %d, not %d", example.name, example.module, got, example.count)
		}
	}
	if klein := named(t, "klein"); orderOfCohomology(t, klein, impl.Module{M: 2, Units: []int64{1, 1, 1, 1}}, 2) != 8 {
		t.Error("klein has not eight classes")
	}
}
