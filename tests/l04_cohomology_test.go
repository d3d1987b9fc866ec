package tests

import (
	"fmt"
	"slices"
	"testing"

	"loop.example/g01363/impl"
)

func TestRankAndClasses(t *testing.T) {
	if impl.MaxRank != 49 || impl.MaxClasses != 64 {
		t.Errorf("MaxRank is %d, MaxClasses %d", impl.MaxRank, impl.MaxClasses)
	}
}

// TestStepsByHand compares steps, and all that they tell, with the cocycles and bounding cochains among
// all cochains.
func TestStepsByHand(t *testing.T) {
	eachSmallCohomology(t, func(name string, g impl.Group, a impl.Module, n int64, h handCohomology) {
		cells := len(cellsByHand(g, n))
		cocycles, bounding := cocycleSteps(t, g, a, n), boundingSteps(t, g, a, n)
		if !slices.Equal(cocycles, stepsByHand(cells, h.cocycles)) || productOfNumbers(cocycles) != int64(len(h.cocycles)) {
			t.Errorf("CocycleSteps(%s, %v, %d) = %v", name, a, n, cocycles)
		}
		if !slices.Equal(bounding, stepsByHand(cells, h.bounding)) || productOfNumbers(bounding) != int64(len(h.bounding)) {
			t.Errorf("BoundingSteps(%s, %v, %d) = %v", name, a, n, bounding)
		}
		order := orderOfCohomology(t, g, a, n)
		if order != int64(len(h.classes)) || order*int64(len(h.bounding)) != int64(len(h.cocycles)) {
			t.Errorf("OrderOfCohomology(%s, %v, %d) = %d", name, a, n, order)
		}
		if invariants := invariantsOf(t, g, a, n); !areInvariantsByHand(a.M, invariants, h) {
			t.Errorf("InvariantsOf(%s, %v, %d) = %v", name, a, n, invariants)
		}
		if classes := classList(t, g, a, n); !slices.EqualFunc(classes, h.classes, equalCochains) {
			t.Errorf("ClassList(%s, %v, %d) = %v, not %v", name, a, n, classes, h.classes)
		}
	})
}

// areInvariantsByHand reports whether numbers are invariants, and of a group with as many elements
// whose multiple by k is 0 as there are classes of this kind, for each k.
func areInvariantsByHand(m int64, invariants []int64, h handCohomology) bool {
	if !areInvariants(invariants, invariants) {
		return false
	}
	for k := int64(1); k <= m; k++ {
		want, count := int64(1), int64(0)
		for _, x := range invariants {
			want *= commonByHand(k, x)
		}
		for _, f := range h.classes {
			if h.isBounding(timesByHand(m, f, k)) {
				count++
			}
		}
		if count != want {
			return false
		}
	}
	return true
}

// timesByHand returns k times a cochain, added up.
func timesByHand(m int64, f impl.Cochain, k int64) impl.Cochain {
	sum := make([]int64, len(f.Values))
	for range k {
		sum = sumByHand(m, sum, f.Values)
	}
	return impl.Cochain{Degree: f.Degree, Values: sum}
}

// TestPromise4ByHand asks for each cocycle among all cochains: its least one, those of its class and of
// other classes, and its order.
func TestPromise4ByHand(t *testing.T) {
	eachSmallCohomology(t, func(name string, g impl.Group, a impl.Module, n int64, h handCohomology) {
		for i, f := range h.cocycles {
			want := h.least[valuesKey(f.Values)]
			if least := leastCocycle(t, g, a, f); !equalCochains(least, want) {
				t.Fatalf("LeastCocycle(%s, %v, %v) = %v, not %v", name, a, f, least, want)
			}
			for _, other := range []impl.Cochain{want, h.cocycles[(i*7+3)%len(h.cocycles)], h.classes[i%len(h.classes)]} {
				same := equalCochains(want, h.least[valuesKey(other.Values)])
				if areCohomologous(t, g, a, f, other) != same || areCohomologous(t, g, a, other, f) != same {
					t.Fatalf("AreCohomologous(%s, %v, %v, %v) is not %v", name, a, f, other, same)
				}
			}
			order := int64(1)
			for !h.isBounding(timesByHand(a.M, f, order)) {
				order++
			}
			if k := orderOfClass(t, g, a, f); k != order {
				t.Fatalf("OrderOfClass(%s, %v, %v) = %d, not %d", name, a, f, k, order)
			}
		}
	})
}

// TestBoundingByHand asks for each cochain whether it is bounding, and for the least one with it as its
// boundary, also where it is no cocycle; and what asks for cocycles refuses all others.
func TestBoundingByHand(t *testing.T) {
	eachSmallCohomology(t, func(name string, g impl.Group, a impl.Module, n int64, h handCohomology) {
		for i, f := range h.cochains {
			want := h.isBounding(f)
			if isBounding(t, g, a, f) != want {
				t.Fatalf("IsBounding(%s, %v, %v) is not %v", name, a, f, want)
			}
			bounded, code := impl.LeastBounded(g, a, f)
			least, found := h.bounded[valuesKey(f.Values)]
			if found && (code != impl.ErrNone || !equalCochains(bounded, least)) || !found && !failed(all(bounded, code), impl.ErrState) {
				t.Fatalf("LeastBounded(%s, %v, %v) = %v, %d", name, a, f, bounded, code)
			}
			if _, isCocycle := h.least[valuesKey(f.Values)]; !isCocycle && i%5 == 1 {
				checkNoCocycle(t, name, g, a, f, h.cocycles[0])
			}
		}
	})
}

// checkNoCocycle asks for ErrState of what asks for cocycles. The other cochain is a cocycle.
func checkNoCocycle(t *testing.T, name string, g impl.Group, a impl.Module, f, other impl.Cochain) {
	t.Helper()
	calls := map[string][]any{
		"LeastCocycle":            all(impl.LeastCocycle(g, a, f)),
		"AreCohomologous, first":  all(impl.AreCohomologous(g, a, f, other)),
		"AreCohomologous, second": all(impl.AreCohomologous(g, a, other, f)),
		"AreCohomologous, both":   all(impl.AreCohomologous(g, a, f, f)),
		"OrderOfClass":            all(impl.OrderOfClass(g, a, f)),
	}
	for call, results := range calls {
		if !failed(results, impl.ErrState) {
			t.Errorf("%s of %s, %v, %v: %v", call, name, a, f, results)
		}
	}
}

// secondHomology are the orders of cyclic groups whose direct product is the second homology group of a
// named group, where it is not 0.
var secondHomology = map[string][]int64{"klein": {2}, "cube": {2, 2, 2}, "c2c4": {2}, "dihedral": {2}}

// thirdHomology are those of the third homology group, where cochains of the degree 3 are not too many.
var thirdHomology = map[string][]int64{"c1": {}, "c2": {2}, "c3": {3}, "c4": {4}, "klein": {2, 2, 2}}

// TestTrivialModules compares all degrees with the homology groups that are known. By these the
// cohomology group for the trivial module with M = m has, for each cyclic part of two homology groups,
// a cyclic part whose order is the greatest common divisor with m.
func TestTrivialModules(t *testing.T) {
	for _, name := range allNames {
		homology := [][]int64{cyclicParts[name], secondHomology[name], thirdHomology[name]}
		for m := int64(2); m <= 12; m++ {
			for suffix, g := range map[string]impl.Group{"": named(t, name), " turned": turned(t, named(t, name))} {
				a, _ := impl.TrivialModule(g, m)
				want := [][]int64{{m}, nil, nil, nil}
				for degree, parts := range homology {
					for _, k := range parts {
						d := commonByHand(k, m)
						want[degree+1] = append(want[degree+1], d)
						if degree < 2 {
							want[degree+2] = append(want[degree+2], d)
						}
					}
				}
				for n := range int64(4) {
					if len(cellsByHand(g, n)) > 49 {
						continue
					}
					if invariants := invariantsOf(t, g, a, n); !areInvariants(invariants, want[n]) {
						t.Errorf("InvariantsOf(%s, %d, %d) = %v, not %v", name+suffix, m, n, invariants, want[n])
					}
					if order := orderOfCohomology(t, g, a, n); order != productOfNumbers(want[n]) {
						t.Errorf("OrderOfCohomology(%s, %d, %d) = %d", name+suffix, m, n, order)
					}
				}
			}
		}
	}
}

// TestCyclicGroups: the cohomology of a cyclic group is that of numbers with the rest 0 as multiples of
// the norm or the difference, by multiples of the other one, and so cyclic.
func TestCyclicGroups(t *testing.T) {
	for k := int64(1); k <= 8; k++ {
		g := named(t, fmt.Sprintf("c%d", k))
		for m := int64(2); m <= 12; m++ {
			for _, a := range modulesOf(t, g, m) {
				norm := int64(0)
				for _, u := range a.Units {
					norm += u
				}
				difference := a.Units[1%k] - 1
				for n := range int64(4) {
					if len(cellsByHand(g, n)) > 49 {
						continue
					}
					order := countRestless(m, difference) / countMultiples(m, norm)
					if n == 0 {
						order = countRestless(m, difference)
					} else if n%2 == 1 {
						order = countRestless(m, norm) / countMultiples(m, difference)
					}
					var want []int64
					if order > 1 {
						want = []int64{order}
					}
					if invariants := invariantsOf(t, g, a, n); !slices.Equal(invariants, want) {
						t.Errorf("InvariantsOf(c%d, %v, %d) = %v, not %v", k, a, n, invariants, want)
					}
				}
			}
		}
	}
}

// countRestless returns how many numbers in 0..m - 1 have the rest 0 when multiplied by c.
func countRestless(m, c int64) int64 {
	count := int64(0)
	for x := range m {
		if c*x%m == 0 {
			count++
		}
	}
	return count
}

// countMultiples returns how many rests the multiples of c have.
func countMultiples(m, c int64) int64 {
	rests := map[int64]bool{}
	for x := range m {
		rests[c*x%m] = true
	}
	return int64(len(rests))
}

// TestFirstHomomorphisms: for trivial modules the classes of the degree 1 are the homomorphisms to the
// numbers modulo M.
func TestFirstHomomorphisms(t *testing.T) {
	for name, g := range sampleGroups(t) {
		for m := int64(2); m <= 8; m++ {
			a, _ := impl.TrivialModule(g, m)
			homomorphisms, _ := impl.HomomorphismsOf(g, named(t, fmt.Sprintf("c%d", m)))
			classes := classList(t, g, a, 1)
			same := slices.EqualFunc(classes, homomorphisms, func(f impl.Cochain, images []int64) bool {
				return f.Degree == 1 && slices.Equal(f.Values, images[1:])
			})
			if !same {
				t.Errorf("ClassList(%s, %d, 1) = %v, not %v", name, m, classes, homomorphisms)
			}
		}
	}
}

// TestCohomologyExample: the example of the document, and what follows from it.
func TestCohomologyExample(t *testing.T) {
	c2, a := named(t, "c2"), impl.Module{M: 2, Units: []int64{1, 1}}
	for n := range int64(4) {
		if invariants := invariantsOf(t, c2, a, n); !slices.Equal(invariants, []int64{2}) {
			t.Errorf("InvariantsOf(c2, 2, %d) = %v", n, invariants)
		}
		if steps := cocycleSteps(t, c2, a, n); !slices.Equal(steps, []int64{2}) {
			t.Errorf("CocycleSteps(c2, 2, %d) = %v", n, steps)
		}
		if steps := boundingSteps(t, c2, a, n); !slices.Equal(steps, []int64{1}) {
			t.Errorf("BoundingSteps(c2, 2, %d) = %v", n, steps)
		}
		zero, one := impl.Cochain{Degree: n, Values: []int64{0}}, impl.Cochain{Degree: n, Values: []int64{1}}
		if classes := classList(t, c2, a, n); !slices.EqualFunc(classes, []impl.Cochain{zero, one}, equalCochains) {
			t.Errorf("ClassList(c2, 2, %d) = %v", n, classes)
		}
		if isBounding(t, c2, a, one) || !isBounding(t, c2, a, zero) || areCohomologous(t, c2, a, one, zero) || !areCohomologous(t, c2, a, one, one) {
			t.Errorf("c2, 2: the classes of the degree %d are wrong", n)
		}
		if orderOfClass(t, c2, a, one) != 2 || orderOfClass(t, c2, a, zero) != 1 || !equalCochains(leastCocycle(t, c2, a, one), one) {
			t.Errorf("c2, 2: the class of 1 of the degree %d is wrong", n)
		}
	}
}

func TestStepsExamples(t *testing.T) {
	rows := []struct {
		name               string
		a                  impl.Module
		n                  int64
		cocycles, bounding []int64
		invariants         []int64
	}{
		{"c2", impl.Module{M: 4, Units: []int64{1, 1}}, 1, []int64{2}, []int64{1}, []int64{2}},
		{"c2", impl.Module{M: 4, Units: []int64{1, 3}}, 1, []int64{4}, []int64{2}, []int64{2}},
		{"c2", impl.Module{M: 8, Units: []int64{1, 3}}, 1, []int64{4}, []int64{4}, nil},
		{"c2", impl.Module{M: 12, Units: []int64{1, 7}}, 2, []int64{6}, []int64{3}, []int64{2}},
		{"c3", impl.Module{M: 6, Units: []int64{1, 1, 1}}, 1, []int64{3, 1}, []int64{1, 1}, []int64{3}},
		{"c3", impl.Module{M: 7, Units: []int64{1, 2, 4}}, 1, []int64{7, 1}, []int64{7, 1}, nil},
		{"c4", impl.Module{M: 12, Units: []int64{1, 1, 1, 1}}, 1, []int64{4, 1, 1}, []int64{1, 1, 1}, []int64{4}},
		{"c4", impl.Module{M: 8, Units: []int64{1, 3, 1, 3}}, 1, []int64{8, 1, 1}, []int64{4, 1, 1}, []int64{2}},
		{"klein", impl.Module{M: 4, Units: []int64{1, 1, 1, 1}}, 1, []int64{2, 2, 1}, []int64{1, 1, 1}, []int64{2, 2}},
		{"c2c4", impl.Module{M: 8, Units: []int64{1, 1, 1, 1, 1, 1, 1, 1}}, 1, []int64{4, 1, 1, 2, 1, 1, 1}, []int64{1, 1, 1, 1, 1, 1, 1}, []int64{2, 4}},
		{"s3", impl.Module{M: 3, Units: []int64{1, 1, 1, 2, 2, 2}}, 1, []int64{3, 1, 3, 1, 1}, []int64{1, 1, 3, 1, 1}, []int64{3}},
	}
	for _, r := range rows {
		g := named(t, r.name)
		cocycles, bounding, invariants := cocycleSteps(t, g, r.a, r.n), boundingSteps(t, g, r.a, r.n), invariantsOf(t, g, r.a, r.n)
		if !slices.Equal(cocycles, r.cocycles) || !slices.Equal(bounding, r.bounding) || !slices.Equal(invariants, r.invariants) {
			t.Errorf("%s, %v, %d: %v, %v, %v", r.name, r.a, r.n, cocycles, bounding, invariants)
		}
	}
}
