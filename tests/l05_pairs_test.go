package tests

import (
	"fmt"
	"slices"
	"testing"

	"loop.example/g01363/impl"
)

// eachSomeModule is as eachModule, with the first and the last module of each M alone.
func eachSomeModule(t *testing.T, call func(name string, g impl.Group, a impl.Module)) {
	t.Helper()
	for name, g := range sampleGroups(t) {
		for m := int64(2); m <= 12; m++ {
			modules := modulesOf(t, g, m)
			call(name, g, modules[0])
			if last := len(modules) - 1; last > 0 {
				call(name, g, modules[last])
			}
		}
	}
}

// pairTable returns the products of all pairs, row by row.
func pairTable(t *testing.T, g impl.Group, a impl.Module) [][]int64 {
	t.Helper()
	count := int64(len(g.Table)) * a.M
	rows := make([][]int64, count)
	for p := range count {
		for q := range count {
			rows[p] = append(rows[p], pairProduct(t, g, a, p, q))
		}
	}
	return rows
}

// TestPairsAreAGroup: products are as told and do not depend on brackets, the pair 0 is the identity,
// inverses lead back, and orders lead to 0 and are the least ones.
func TestPairsAreAGroup(t *testing.T) {
	eachSomeModule(t, func(name string, g impl.Group, a impl.Module) {
		if len(g.Table)*int(a.M) > 40 && a.M != 8 && a.M != 12 {
			return // 8 and 12 have the most units
		}
		products := pairTable(t, g, a)
		if want := pairProductsByHand(g, a); !equalLists(products, want) {
			t.Fatalf("PairProduct(%s, %v): %v, not %v", name, a, products, want)
		}
		for p, row := range products {
			if row[0] != int64(p) || products[0][p] != int64(p) {
				t.Errorf("%s, %v: products of %d with 0 are %d and %d", name, a, p, row[0], products[0][p])
			}
			for q, first := range row {
				for r, last := range products[q] {
					if products[first][r] != row[last] {
						t.Fatalf("%s, %v: brackets matter for %d, %d, %d", name, a, p, q, r)
					}
				}
			}
			checkInverseAndOrder(t, name, g, a, products, int64(p))
		}
	})
}

// checkInverseAndOrder asks for the inverse and the order of a pair.
func checkInverseAndOrder(t *testing.T, name string, g impl.Group, a impl.Module, products [][]int64, p int64) {
	t.Helper()
	back := wanted[int64](t, "PairInverse")(impl.PairInverse(g, a, p))
	if back < 0 || back >= int64(len(products)) || products[p][back] != 0 || products[back][p] != 0 {
		t.Errorf("PairInverse(%s, %v, %d) = %d", name, a, p, back)
	}
	order := wanted[int64](t, "PairOrder")(impl.PairOrder(g, a, p))
	least, power := int64(1), p
	for power != 0 {
		power = products[power][p]
		least++
	}
	if order != least || int64(len(products))%order != 0 {
		t.Errorf("PairOrder(%s, %v, %d) = %d, not %d", name, a, p, order, least)
	}
}

// TestPairsOfLeastAndGreatestModulus: known pairs, where M is 2 and 12, and of the group with one
// element, whose pairs are added.
func TestPairsOfLeastAndGreatestModulus(t *testing.T) {
	quaternion, c2, c1 := named(t, "quaternion"), named(t, "c2"), named(t, "c1")
	twelve := impl.Module{M: 12, Units: []int64{1, 1, 1, 1, 11, 11, 11, 11}}
	two := impl.Module{M: 2, Units: []int64{1, 1}}
	// The pair 53 has the number 5 and the element 4, 13 has 1 and 1, and 95 has 11 and 7.
	checkPair(t, quaternion, twelve, [2]int64{53, 13}, 64, 77, 4)
	checkPair(t, quaternion, twelve, [2]int64{53, 95}, 18, 77, 4)
	checkPair(t, quaternion, twelve, [2]int64{13, 53}, 90, 47, 12)
	checkPair(t, quaternion, twelve, [2]int64{0, 95}, 95, 0, 1)
	checkPair(t, c2, two, [2]int64{3, 3}, 0, 3, 2)
	checkPair(t, c2, two, [2]int64{1, 2}, 3, 1, 2)
	for m := int64(2); m <= 12; m++ {
		checkPair(t, c1, impl.Module{M: m, Units: []int64{1}}, [2]int64{m - 1, m - 1}, m-2, 1, m)
	}
}

// checkPair asks for the product of two pairs, and for the inverse and the order of the first one.
func checkPair(t *testing.T, g impl.Group, a impl.Module, pairs [2]int64, product, inverse, order int64) {
	t.Helper()
	back := wanted[int64](t, "PairInverse")(impl.PairInverse(g, a, pairs[0]))
	k := wanted[int64](t, "PairOrder")(impl.PairOrder(g, a, pairs[0]))
	if got := pairProduct(t, g, a, pairs[0], pairs[1]); got != product || back != inverse || k != order {
		t.Errorf("%v, M = %d: product %d, inverse %d, order %d", pairs, a.M, got, back, k)
	}
}

// TestComplementsByHand looks at all ascending lists of at most 12 pairs: complements are as many as
// crossed maps, and belong to these.
func TestComplementsByHand(t *testing.T) {
	eachModule(t, func(name string, g impl.Group, a impl.Module) {
		count := int64(len(g.Table)) * a.M
		if count > 12 {
			return
		}
		products := pairProductsByHand(g, a)
		var found [][]int64
		for _, pairs := range sublists(count) {
			want := isComplementByHand(g, a, products, pairs)
			if isComplement(t, g, a, pairs) != want {
				t.Errorf("IsComplement(%s, %v, %v) is not %v", name, a, pairs, want)
			}
			if want {
				found = append(found, pairs)
			} else {
				checkNotComplement(t, g, a, pairs)
			}
		}
		var want [][]int64
		for _, list := range crossedMaps(t, g, a) {
			want = append(want, complementOf(t, g, a, list))
		}
		if !areSameLists(want, found) {
			t.Errorf("%s, %v: the complements are %v, those of crossed maps %v", name, a, found, want)
		}
	})
}

// checkNotComplement: no conjugate is told of a list of pairs that is no complement, for all numbers.
func checkNotComplement(t *testing.T, g impl.Group, a impl.Module, pairs []int64) {
	t.Helper()
	for m := range a.M {
		if results := all(impl.ConjugateComplement(g, a, pairs, m)); !failed(results, impl.ErrState) {
			t.Errorf("ConjugateComplement(%v, %v, %d): %v", a, pairs, m, results)
		}
	}
}

// TestComplementsBelongToCrossedMaps: the complement of each crossed map has its numbers, and is one;
// with another pair of one element it is one just if the list with this number is crossed.
func TestComplementsBelongToCrossedMaps(t *testing.T) {
	eachModule(t, func(name string, g impl.Group, a impl.Module) {
		maps := crossedMaps(t, g, a)
		for i, list := range maps {
			pairs := complementOf(t, g, a, list)
			for x, m := range list {
				if len(pairs) != len(list) || pairs[x] != int64(x)*a.M+m {
					t.Fatalf("ComplementOf(%s, %v, %v) = %v", name, a, list, pairs)
				}
			}
			if !isComplement(t, g, a, pairs) {
				t.Fatalf("IsComplement(%s, %v, %v) is false", name, a, pairs)
			}
			x := i % len(list)
			other, changed := slices.Clone(list), slices.Clone(pairs)
			other[x] = (other[x] + 1) % a.M
			changed[x] = int64(x)*a.M + other[x]
			if isComplement(t, g, a, changed) != isCrossedByHand(g, a, other) {
				t.Fatalf("IsComplement(%s, %v, %v) is not that of %v", name, a, changed, other)
			}
		}
	})
}

// TestComplementsByProducts looks at all products of pairs of complements, for some modules.
func TestComplementsByProducts(t *testing.T) {
	eachSomeModule(t, func(name string, g impl.Group, a impl.Module) {
		products := pairProductsByHand(g, a)
		for i, list := range crossedMaps(t, g, a) {
			if pairs := complementOf(t, g, a, list); i < 40 && !isComplementByHand(g, a, products, pairs) {
				t.Fatalf("ComplementOf(%s, %v, %v) = %v", name, a, list, pairs)
			}
		}
	})
}

// TestListsOfPairsThatAreNone: lists of pairs that do not ascend, that have too few or too many pairs,
// or two of one element, are no complements.
func TestListsOfPairsThatAreNone(t *testing.T) {
	for name, g := range sampleGroups(t) {
		n := int64(len(g.Table))
		for m := int64(2); m <= 12; m++ {
			a, _ := impl.TrivialModule(g, m)
			pairs := complementOf(t, g, a, make([]int64, n))
			none := map[string][]int64{
				"nil":          nil,
				"empty":        {},
				"one too few":  pairs[:n-1],
				"one too many": append(slices.Clone(pairs), n*m-1),
				"one twice":    append(slices.Clone(pairs), pairs[n-1]),
				"all twice":    slices.Repeat(pairs, 2),
				"a great many": slices.Repeat([]int64{n*m - 1}, 100000),
				"all pairs":    slices.Collect(func(yield func(int64) bool) { eachBelow(n*m, yield) }),
				"no identity":  append([]int64{1}, pairs[1:]...),
			}
			if n > 1 {
				descending := slices.Clone(pairs)
				slices.Reverse(descending)
				none["descending"] = descending
				none["two exchanged"] = append(slices.Clone(pairs[:n-2]), pairs[n-1], pairs[n-2])
				none["one element twice"] = append(slices.Clone(pairs[:n-1]), pairs[n-2]+1)
				none["0 alone"] = make([]int64, n)
			}
			for what, list := range none {
				if isComplement(t, g, a, list) {
					t.Errorf("%s: IsComplement(%s, %d, %v) is true", what, name, m, list)
				}
				if results := all(impl.ConjugateComplement(g, a, list, m-1)); !failed(results, impl.ErrState) {
					t.Errorf("%s: ConjugateComplement(%s, %d, %v): %v", what, name, m, list, results)
				}
			}
		}
	}
}

// eachBelow yields the numbers 0 to n - 1.
func eachBelow(n int64, yield func(int64) bool) {
	for i := range n {
		if !yield(i) {
			return
		}
	}
}

// TestConjugatesAreOfTheSameClass: the conjugate of a complement by m is that of pairs one by one, a
// complement again, and belongs to a crossed map of the same class; by 0 it is the same one.
func TestConjugatesAreOfTheSameClass(t *testing.T) {
	eachSomeModule(t, func(name string, g impl.Group, a impl.Module) {
		products := pairProductsByHand(g, a)
		for i, list := range crossedMaps(t, g, a) {
			if i >= 60 {
				break
			}
			pairs := complementOf(t, g, a, list)
			class := classOfCrossed(t, g, a, list)
			for m := range a.M {
				conjugate := conjugateComplement(t, g, a, pairs, m)
				var want, numbers []int64
				for x, p := range pairs {
					want = append(want, products[products[m][p]][restByHand(-m, a.M)])
					numbers = append(numbers, conjugate[x]-int64(x)*a.M)
				}
				what := fmt.Sprint(name, ", ", a, ", ", pairs, ", ", m, ": ", conjugate)
				if !slices.Equal(conjugate, want) || !isComplement(t, g, a, conjugate) || m == 0 && !slices.Equal(conjugate, pairs) {
					t.Fatalf("ConjugateComplement of %s, not %v", what, want)
				}
				if !slices.Equal(classOfCrossed(t, g, a, numbers), class) || !slices.Equal(sumByHand(a.M, numbers, principalByHand(a, m)), list) {
					t.Fatalf("ConjugateComplement of %s is of another class", what)
				}
			}
		}
	})
}

// TestConjugatesOneBehindTheOther: the conjugate by m of that by n is that by m and n together, modulo
// M, and all maps of a class have complements that are conjugate.
func TestConjugatesOneBehindTheOther(t *testing.T) {
	for _, name := range []string{"c1", "c4", "klein", "s3", "dihedral"} {
		g := named(t, name)
		for _, a := range modulesOf(t, g, 12) {
			for _, list := range crossedClasses(t, g, a) {
				pairs := complementOf(t, g, a, list)
				var conjugates [][]int64
				for n := range a.M {
					first := conjugateComplement(t, g, a, pairs, n)
					conjugates = append(conjugates, first)
					m := mixed(n, a.M)
					both := conjugateComplement(t, g, a, first, m)
					if !slices.Equal(both, conjugateComplement(t, g, a, pairs, (m+n)%a.M)) {
						t.Errorf("%s, %v: the conjugate of %v by %d, and then by %d is %v", name, a, pairs, n, m, both)
					}
				}
				for _, other := range classByHand(a, list) {
					if !hasList(conjugates, complementOf(t, g, a, other)) {
						t.Errorf("%s, %v: the complement of %v is no conjugate of %v", name, a, other, pairs)
					}
				}
			}
		}
	}
}
