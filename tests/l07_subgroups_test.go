package tests

import (
	"slices"
	"testing"

	"loop.example/g01363/impl"
)

// TestGroupsOfSubgroups: the group of a subgroup is a group whose products are those of the elements, and
// the elements are a homomorphism from it.
func TestGroupsOfSubgroups(t *testing.T) {
	eachSubgroup(t, func(name string, g impl.Group, h []int64) {
		part := groupOfSubgroup(t, g, h)
		if !impl.IsGroup(part) || len(part.Table) != len(h) {
			t.Fatalf("GroupOfSubgroup(%s) = %v is no group of these", name, part)
		}
		for i, row := range part.Table {
			for j, product := range row {
				if h[product] != g.Table[h[i]][h[j]] {
					t.Fatalf("GroupOfSubgroup(%s) = %v: wrong at %d, %d", name, part, i, j)
				}
			}
		}
		if yes, code := impl.IsHomomorphism(part, g, h); !yes || code != impl.ErrNone {
			t.Errorf("GroupOfSubgroup(%s) = %v: its elements are no homomorphism", name, part)
		}
	})
}

func TestGroupOfSubgroupExamples(t *testing.T) {
	for _, example := range []struct {
		name string
		h    []int64
		text string
	}{
		{"c1", []int64{0}, "0"},
		{"c8", []int64{0}, "0"},
		{"c8", []int64{0, 4}, "01,10"},
		{"c8", []int64{0, 2, 4, 6}, "0123,1230,2301,3012"},
		{"c6", []int64{0, 2, 4}, "012,120,201"},
		{"s3", []int64{0, 4}, "01,10"},
		{"s3", []int64{0, 1, 2}, "012,120,201"},
		{"dihedral", []int64{0, 2, 5, 7}, "0123,1032,2301,3210"},
		{"quaternion", []int64{0, 2, 5, 7}, "0123,1032,2310,3201"},
		{"klein", []int64{0, 1, 2, 3}, "0123,1032,2301,3210"},
	} {
		part := groupOfSubgroup(t, named(t, example.name), example.h)
		if text := wanted[string](t, "GroupText")(impl.GroupText(part)); text != example.text {
			t.Errorf("GroupOfSubgroup(%s, %v) = %s", example.name, example.h, text)
		}
	}
}

// TestModulesOfSubgroups: the module of a subgroup is one of its group, with the units of the elements; it
// is the one that chapter 2 restricts by the elements.
func TestModulesOfSubgroups(t *testing.T) {
	eachPart(t, func(name string, g impl.Group, a impl.Module, h []int64) {
		part, b := groupOfSubgroup(t, g, h), moduleOfSubgroup(t, g, a, h)
		if !equalModules(b, partModuleByHand(a, h)) || !isModuleByHand(part, b) {
			t.Fatalf("ModuleOfSubgroup(%s) = %v", name, b)
		}
		if restricted, code := impl.RestrictModule(part, g, h, a); !equalModules(b, restricted) || code != impl.ErrNone {
			t.Errorf("ModuleOfSubgroup(%s) = %v, but restricted %v, %d", name, b, restricted, code)
		}
	})
}

// TestRestrictedCochains: a restricted cochain has the values of the cochain at lists of elements, also at
// lists with 0; it is the cochain that chapter 3 pulls back along the elements.
func TestRestrictedCochains(t *testing.T) {
	eachPart(t, func(name string, g impl.Group, a impl.Module, h []int64) {
		part, b := groupOfSubgroup(t, g, h), moduleOfSubgroup(t, g, a, h)
		for _, n := range degreesOf(g, a) {
			f := sampleCochain(g, a, n, n+a.M)
			k := restricted(t, g, a, h, f)
			if !equalCochains(k, restrictedByHand(g, a, h, f)) {
				t.Fatalf("RestrictCochain(%s, %v) = %v", name, f, k)
			}
			if _, pulled, code := impl.PullBack(part, g, a, h, f); !equalCochains(k, pulled) || code != impl.ErrNone {
				t.Errorf("RestrictCochain(%s, %v) = %v, but pulled back %v, %d", name, f, k, pulled, code)
			}
			if n > 2 {
				continue
			}
			for _, list := range lists(n, int64(len(h))) {
				value := wanted[int64](t, "ValueOf")(impl.ValueOf(part, b, k, list))
				if want := wanted[int64](t, "ValueOf")(impl.ValueOf(g, a, f, imagesOf(h, list))); value != want {
					t.Fatalf("RestrictCochain(%s, %v) = %v: %d at %v, not %d", name, f, k, value, list, want)
				}
			}
		}
	})
}

// TestPromise7Restricted: restricted cocycles are cocycles, and boundaries are restricted to boundaries.
func TestPromise7Restricted(t *testing.T) {
	for name, g := range sampleGroups(t) {
		for _, a := range firstAndLast(t, g, partModuli) {
			for _, n := range degreesOf(g, a) {
				cocycles := someCocycles(t, g, a, n)
				for _, h := range subgroupsByHand(g) {
					part, b := groupOfSubgroup(t, g, h), moduleOfSubgroup(t, g, a, h)
					for _, f := range cocycles {
						if k := restricted(t, g, a, h, f); !isCocycleByHand(part, b, k) || !isCocycle(t, part, b, k) {
							t.Fatalf("RestrictCochain(%s, %v, %v, %v) = %v is no cocycle", name, a, h, f, k)
						}
					}
					if n == 0 {
						continue
					}
					f := sampleCochain(g, a, n-1, a.M)
					boundary := boundaryOf(t, part, b, restricted(t, g, a, h, f))
					if !equalCochains(restricted(t, g, a, h, boundaryOf(t, g, a, f)), boundary) {
						t.Errorf("%s, %v, %v: the boundary of %v is restricted otherwise", name, a, h, f)
					}
				}
			}
		}
	}
}

// TestRestrictedTwice: a cochain that is restricted to a subgroup, and then to one of its subgroups, is the
// one restricted to the latter.
func TestRestrictedTwice(t *testing.T) {
	for _, name := range []string{"c8", "cube", "s3", "dihedral", "quaternion"} {
		g := named(t, name)
		for _, a := range firstAndLast(t, g, []int64{8}) {
			f := sampleCochain(g, a, 2, 3)
			for _, h := range subgroupsByHand(g) {
				part, b, k := groupOfSubgroup(t, g, h), moduleOfSubgroup(t, g, a, h), restricted(t, g, a, h, f)
				for _, inner := range subgroupsByHand(part) {
					once := restricted(t, g, a, imagesOf(h, inner), f)
					if twice := restricted(t, part, b, inner, k); !equalCochains(twice, once) {
						t.Errorf("%s, %v, %v, %v: %v is restricted twice to %v", name, a, h, inner, f, twice)
					}
				}
			}
		}
	}
}

// TestRepresentatives: representatives are the least elements of cosets, ascending from 0 on, as many as
// the index, which is the quotient of the orders; each element is the product of just one of them and one
// element of the subgroup.
func TestRepresentatives(t *testing.T) {
	eachSubgroup(t, func(name string, g impl.Group, h []int64) {
		found, index := representativesOf(t, g, h), indexOf(t, g, h)
		if !slices.Equal(found, representativesByHand(g, h)) || found[0] != 0 {
			t.Fatalf("RepresentativesOf(%s) = %v", name, found)
		}
		if int64(len(found)) != index || int(index)*len(h) != len(g.Table) {
			t.Errorf("IndexOf(%s) = %d", name, index)
		}
		var products []int64
		for _, representative := range found {
			products = append(products, cosetByHand(g, representative, h)...)
		}
		slices.Sort(products)
		if len(slices.Compact(products)) != len(g.Table) {
			t.Errorf("RepresentativesOf(%s) = %v: the products are %v", name, found, products)
		}
	})
}

// TestRepresentativeExamples: the cosets are the sets of all a b with b of the subgroup, not of all b a.
func TestRepresentativeExamples(t *testing.T) {
	for _, example := range []struct {
		name    string
		h, want []int64
	}{
		{"c1", []int64{0}, []int64{0}},
		{"c8", []int64{0}, []int64{0, 1, 2, 3, 4, 5, 6, 7}},
		{"c8", []int64{0, 4}, []int64{0, 1, 2, 3}},
		{"c8", []int64{0, 1, 2, 3, 4, 5, 6, 7}, []int64{0}},
		{"s3", []int64{0, 1, 2}, []int64{0, 3}},
		{"s3", []int64{0, 4}, []int64{0, 1, 2}},
		{"c2c4", []int64{0, 4}, []int64{0, 1, 2, 3}},
		{"cube", []int64{0, 3, 4, 7}, []int64{0, 1}},
		{"quaternion", []int64{0, 2, 4, 6}, []int64{0, 1}},
	} {
		if found := representativesOf(t, named(t, example.name), example.h); !slices.Equal(found, example.want) {
			t.Errorf("RepresentativesOf(%s, %v) = %v", example.name, example.h, found)
		}
	}
	// The sets of all b a have the least elements 0 1 2, and 0 1 3, in this group.
	g := wanted[impl.Group](t, "RenumberGroup")(impl.RenumberGroup(named(t, "s3"), []int64{0, 1, 3, 2, 4, 5}))
	for _, example := range []struct{ h, want []int64 }{{[]int64{0, 4}, []int64{0, 1, 3}}, {[]int64{0, 5}, []int64{0, 1, 2}}} {
		if found := representativesOf(t, g, example.h); !slices.Equal(found, example.want) {
			t.Errorf("RepresentativesOf(s3 renumbered, %v) = %v", example.h, found)
		}
	}
}

// TestInflatedCochains: an inflated cochain has at a list the value of the cochain at the cosets, in the
// module with the units of the cosets; it is the one that chapter 3 pulls back.
func TestInflatedCochains(t *testing.T) {
	eachNormal(t, func(name string, g impl.Group, h []int64, quotient impl.Group, numbers []int64) {
		for _, a := range firstAndLast(t, quotient, []int64{2, 5, 8, 12}) {
			for _, n := range degreesOf(g, a) {
				f := sampleCochain(quotient, a, n, n+a.M)
				values := valuesByHand(quotient, f)
				want := cochainByHand(g, a.M, n, func(list []int64) int64 { return values[keyByHand(imagesOf(numbers, list))] })
				b, k := inflated(t, g, h, a, f)
				if !equalModules(b, impl.Module{M: a.M, Units: imagesOf(a.Units, numbers)}) || !isModuleByHand(g, b) || !equalCochains(k, want) {
					t.Fatalf("InflateCochain(%s, %v, %v) = %v, %v", name, a, f, b, k)
				}
				if c, pulled, code := impl.PullBack(g, quotient, a, numbers, f); !equalModules(b, c) || !equalCochains(k, pulled) || code != impl.ErrNone {
					t.Errorf("InflateCochain(%s, %v, %v) = %v, %v, but pulled back %v, %v, %d", name, a, f, b, k, c, pulled, code)
				}
			}
		}
	})
}

// TestPromise7Inflated: inflated cocycles are cocycles, boundaries are inflated to boundaries, and what is
// inflated is restricted to 0 on the subgroup, but for the degree 0.
func TestPromise7Inflated(t *testing.T) {
	eachNormal(t, func(name string, g impl.Group, h []int64, quotient impl.Group, numbers []int64) {
		for _, a := range firstAndLast(t, quotient, []int64{2, 5, 8, 12}) {
			for _, n := range degreesOf(g, a) {
				for _, f := range someCocycles(t, quotient, a, n) {
					b, k := inflated(t, g, h, a, f)
					if !isCocycleByHand(g, b, k) || !isCocycle(t, g, b, k) {
						t.Fatalf("InflateCochain(%s, %v, %v) = %v is no cocycle", name, a, f, k)
					}
					if n > 0 && !isZeroCochain(restricted(t, g, b, h, k)) {
						t.Errorf("InflateCochain(%s, %v, %v) = %v is not restricted to 0", name, a, f, k)
					}
				}
				if n == 0 {
					continue
				}
				f := sampleCochain(quotient, a, n-1, a.M)
				b, k := inflated(t, g, h, a, f)
				if _, boundary := inflated(t, g, h, a, boundaryOf(t, quotient, a, f)); !equalCochains(boundary, boundaryOf(t, g, b, k)) {
					t.Errorf("%s, %v: the boundary of %v is inflated to %v", name, a, f, boundary)
				}
			}
		}
	})
}

// TestConjugateSubgroups: a conjugate subgroup is a subgroup of as many elements, as told; normal ones are
// their own conjugates, and elements conjugate one behind the other as their products do.
func TestConjugateSubgroups(t *testing.T) {
	eachSubgroup(t, func(name string, g impl.Group, h []int64) {
		isOwn := true
		for c := range int64(len(g.Table)) {
			conjugate := conjugateSubgroup(t, g, h, c)
			if !slices.Equal(conjugate, conjugateByHand(g, h, c)) || !isSubgroupByHand(g, conjugate) || len(conjugate) != len(h) {
				t.Fatalf("ConjugateSubgroup(%s, %d) = %v", name, c, conjugate)
			}
			isOwn = isOwn && slices.Equal(conjugate, h)
			for d := range int64(len(g.Table)) {
				if twice := conjugateSubgroup(t, g, conjugate, d); !slices.Equal(twice, conjugateSubgroup(t, g, h, g.Table[d][c])) {
					t.Fatalf("ConjugateSubgroup(%s) by %d and %d = %v", name, c, d, twice)
				}
			}
		}
		if isOwn != isNormalByHand(g, h) {
			t.Errorf("%s has itself as its only conjugate: %v", name, isOwn)
		}
	})
}

func TestConjugateSubgroupExamples(t *testing.T) {
	s3, dihedral := named(t, "s3"), named(t, "dihedral")
	for c, want := range [][]int64{{0, 3}, {0, 4}, {0, 5}, {0, 3}, {0, 5}, {0, 4}} {
		if conjugate := conjugateSubgroup(t, s3, []int64{0, 3}, int64(c)); !slices.Equal(conjugate, want) {
			t.Errorf("ConjugateSubgroup(s3, 0 3, %d) = %v, not %v", c, conjugate, want)
		}
	}
	if conjugate := conjugateSubgroup(t, dihedral, []int64{0, 4}, 7); !slices.Equal(conjugate, []int64{0, 6}) {
		t.Errorf("ConjugateSubgroup(dihedral, 0 4, 7) = %v", conjugate)
	}
}

// TestConjugateCochains: the conjugate cochain has at each list the value to which c leads that at the list
// of all c' x c; 0 changes nothing, and on the whole group it is the one moved by c.
func TestConjugateCochains(t *testing.T) {
	eachPart(t, func(name string, g impl.Group, a impl.Module, h []int64) {
		part, b := groupOfSubgroup(t, g, h), moduleOfSubgroup(t, g, a, h)
		for _, n := range degreesOf(part, a) {
			f := sampleCochain(part, b, n, n+a.M)
			if !equalCochains(conjugateCochain(t, g, a, h, f, 0), f) {
				t.Errorf("ConjugateCochain(%s, %v, 0) is another one", name, f)
			}
			for c := range int64(len(g.Table)) {
				k := conjugateCochain(t, g, a, h, f, c)
				if !equalCochains(k, conjugateCochainByHand(g, a, h, f, c)) {
					t.Fatalf("ConjugateCochain(%s, %v, %d) = %v", name, f, c, k)
				}
				if len(h) == len(g.Table) && !equalCochains(k, moved(t, g, a, f, c)) {
					t.Errorf("ConjugateCochain(%s, %v, %d) = %v, but moved otherwise", name, f, c, k)
				}
			}
		}
	})
}

// TestPromise7Conjugate: conjugate cocycles are cocycles of the group of the conjugate subgroup, in its
// module, and boundaries become the boundaries.
func TestPromise7Conjugate(t *testing.T) {
	eachPart(t, func(name string, g impl.Group, a impl.Module, h []int64) {
		part, b := groupOfSubgroup(t, g, h), moduleOfSubgroup(t, g, a, h)
		for _, n := range degreesOf(part, a) {
			cocycles := someCocycles(t, part, b, n)
			for c := range int64(len(g.Table)) {
				conjugate := conjugateSubgroup(t, g, h, c)
				other, d := groupOfSubgroup(t, g, conjugate), moduleOfSubgroup(t, g, a, conjugate)
				if len(h) > 6 && n == 3 && c%3 != 0 {
					continue // these take long
				}
				for _, f := range cocycles {
					if k := conjugateCochain(t, g, a, h, f, c); !isCocycle(t, other, d, k) || n < 3 && !isCocycleByHand(other, d, k) {
						t.Fatalf("ConjugateCochain(%s, %v, %d) = %v is no cocycle", name, f, c, k)
					}
				}
				if n == 0 {
					continue
				}
				f := sampleCochain(part, b, n-1, a.M)
				boundary := boundaryOf(t, other, d, conjugateCochain(t, g, a, h, f, c))
				if !equalCochains(conjugateCochain(t, g, a, h, boundaryOf(t, part, b, f), c), boundary) {
					t.Errorf("%s: the boundary of %v is conjugated by %d otherwise", name, f, c)
				}
			}
		}
	})
}

// TestConjugateTwice: elements conjugate cochains one behind the other as their products do, also where
// they lead one subgroup to another one, and cochains of the whole group are restricted and conjugated as
// they are moved and restricted.
func TestConjugateTwice(t *testing.T) {
	for _, name := range []string{"s3", "s3 turned", "dihedral", "quaternion turned"} {
		g := sampleGroups(t)[name]
		for _, a := range firstAndLast(t, g, []int64{7, 8}) {
			whole := sampleCochain(g, a, 2, 5)
			for _, h := range subgroupsByHand(g) {
				f := restricted(t, g, a, h, whole)
				for c := range int64(len(g.Table)) {
					conjugate, k := conjugateSubgroup(t, g, h, c), conjugateCochain(t, g, a, h, f, c)
					if !equalCochains(k, restricted(t, g, a, conjugate, moved(t, g, a, whole, c))) {
						t.Errorf("%s, %v, %v: %v is conjugated by %d to %v", name, a, h, f, c, k)
					}
					for d := range int64(len(g.Table)) {
						twice := conjugateCochain(t, g, a, conjugate, k, d)
						if !equalCochains(twice, conjugateCochain(t, g, a, h, f, g.Table[d][c])) {
							t.Fatalf("%s, %v, %v: %d and %d conjugate %v to %v", name, a, h, c, d, f, twice)
						}
					}
				}
			}
		}
	}
}

// TestSubgroupsOfOneElement: the group with one element has one subgroup, and nothing changes.
func TestSubgroupsOfOneElement(t *testing.T) {
	c1, one := named(t, "c1"), []int64{0}
	for m := int64(2); m <= 12; m++ {
		a := impl.Module{M: m, Units: []int64{1}}
		for n := range int64(4) {
			f := impl.Cochain{Degree: n}
			if n == 0 {
				f.Values = []int64{m - 1}
			}
			if got := restricted(t, c1, a, one, f); !equalCochains(got, f) {
				t.Errorf("RestrictCochain(c1, %v, %v) = %v", a, f, got)
			}
			if got := conjugateCochain(t, c1, a, one, f, 0); !equalCochains(got, f) {
				t.Errorf("ConjugateCochain(c1, %v, %v) = %v", a, f, got)
			}
			if b, got := inflated(t, c1, one, a, f); !equalModules(a, b) || !equalCochains(got, f) {
				t.Errorf("InflateCochain(c1, %v, %v) = %v, %v", a, f, b, got)
			}
			if n < 2 && !equalCochains(transferred(t, c1, a, one, f), f) {
				t.Errorf("TransferCochain(c1, %v, %v) is another one", a, f)
			}
		}
	}
	if indexOf(t, c1, one) != 1 || !slices.Equal(conjugateSubgroup(t, c1, one, 0), one) || transferElement(t, c1, one, 0) != 0 {
		t.Error("c1 has other subgroups")
	}
}

// TestLeastAndGreatestSubgroup: from the whole group nothing changes, and on 0 alone all is 0 but for the
// degree 0.
func TestLeastAndGreatestSubgroup(t *testing.T) {
	eachSomeModule(t, func(name string, g impl.Group, a impl.Module) {
		whole := make([]int64, len(g.Table))
		for x := range whole {
			whole[x] = int64(x)
		}
		for n := range int64(3) {
			f := sampleCochain(g, a, n, a.M)
			b, k := inflated(t, g, []int64{0}, a, f)
			if !equalCochains(restricted(t, g, a, whole, f), f) || !equalModules(a, b) || !equalCochains(k, f) {
				t.Errorf("%s, %v, %v: RestrictCochain or InflateCochain", name, a, f)
			}
			if n < 2 && !equalCochains(transferred(t, g, a, whole, f), f) {
				t.Errorf("%s, %v, %v: TransferCochain", name, a, f)
			}
			small := restricted(t, g, a, []int64{0}, f)
			if n > 0 && len(small.Values) != 0 || n == 0 && !equalCochains(small, f) {
				t.Errorf("RestrictCochain(%s, %v, 0, %v) = %v", name, a, f, small)
			}
			trivial := impl.Module{M: a.M, Units: []int64{1}}
			if b, k := inflated(t, g, whole, trivial, small); slices.Max(b.Units) != 1 || len(b.Units) != len(whole) || n > 0 && !isZeroCochain(k) || n == 0 && !equalCochains(k, f) {
				t.Errorf("InflateCochain(%s, all, %v, %v) = %v, %v", name, trivial, small, b, k)
			}
		}
		if indexOf(t, g, whole) != 1 || indexOf(t, g, []int64{0}) != int64(len(whole)) || !slices.Equal(representativesOf(t, g, []int64{0}), whole) {
			t.Errorf("RepresentativesOf(%s)", name)
		}
	})
}
