package tests

import (
	"slices"
	"testing"

	"loop.example/g01363/impl"
)

// sampleBoundary returns a bounding cochain of the degree n that a seed tells.
func sampleBoundary(t *testing.T, g impl.Group, a impl.Module, n, seed int64) impl.Cochain {
	t.Helper()
	if n == 0 {
		return impl.Cochain{Values: []int64{0}}
	}
	return boundaryOf(t, g, a, sampleCochain(g, a, n-1, seed))
}

// TestPromise4Numbers: place by place the steps of cocycles are multiples of those of bounding cochains,
// and the quotients have the order as their product, as the invariants have; there are just as many
// classes, in order.
func TestPromise4Numbers(t *testing.T) {
	eachCohomology(t, func(name string, g impl.Group, a impl.Module, n int64) {
		cocycles, bounding := cocycleSteps(t, g, a, n), boundingSteps(t, g, a, n)
		order := int64(1)
		for i := range cellsByHand(g, n) {
			if !divides(bounding[i], cocycles[i]) || !divides(cocycles[i], a.M) {
				t.Fatalf("%s, %v, %d: the steps are %v and %v", name, a, n, cocycles, bounding)
			}
			order *= cocycles[i] / bounding[i]
		}
		invariants := invariantsOf(t, g, a, n)
		if orderOfCohomology(t, g, a, n) != order || productOfNumbers(invariants) != order || !areInvariants(invariants, invariants) {
			t.Errorf("%s, %v, %d: the order is %d, the invariants are %v", name, a, n, order, invariants)
		}
		classes := classList(t, g, a, n)
		ascending := slices.IsSortedFunc(classes, func(f, h impl.Cochain) int { return slices.Compare(f.Values, h.Values) })
		if int64(len(classes)) != order || !ascending || len(classes) == 0 || !isZeroCochain(classes[0]) {
			t.Errorf("ClassList(%s, %v, %d) = %v", name, a, n, classes)
		}
	})
}

// TestBoundingStepsOfCocycleSteps: the cochains of a degree are as many as cocycles and boundaries of
// the degree above have together, counted by factors of 2, 3, 5, 7 and 11.
func TestBoundingStepsOfCocycleSteps(t *testing.T) {
	eachCohomology(t, func(name string, g impl.Group, a impl.Module, n int64) {
		if n == 3 || len(cellsByHand(g, n+1)) > 49 {
			return
		}
		for _, p := range []int64{2, 3, 5, 7, 11} {
			want := int64(len(cellsByHand(g, n))) * factorsOf(p, a.M)
			got := int64(0)
			for _, step := range append(cocycleSteps(t, g, a, n), boundingSteps(t, g, a, n+1)...) {
				got += factorsOf(p, step)
			}
			if got != want {
				t.Errorf("%s, %v, %d: %d times the factor %d, not %d", name, a, n, got, p, want)
			}
		}
	})
}

// factorsOf returns how many times p divides x.
func factorsOf(p, x int64) int64 {
	count := int64(0)
	for ; x%p == 0; x /= p {
		count++
	}
	return count
}

// TestPromise4LeastCocycles: the classes are cocycles, and what differs from one by a bounding cochain
// has it as its least cocycle; other classes are not cohomologous.
func TestPromise4LeastCocycles(t *testing.T) {
	eachCohomology(t, func(name string, g impl.Group, a impl.Module, n int64) {
		classes := classList(t, g, a, n)
		for i := 0; i < len(classes); i += 1 + len(classes)/3 {
			f := classes[i]
			h := added(t, g, a, f, sampleBoundary(t, g, a, n, int64(i)+a.M), 1)
			if !isCocycle(t, g, a, f) || !equalCochains(leastCocycle(t, g, a, f), f) {
				t.Errorf("%s, %v: the class %v is none", name, a, f)
			}
			if least := leastCocycle(t, g, a, h); !equalCochains(least, f) || slices.Compare(f.Values, h.Values) > 0 {
				t.Errorf("LeastCocycle(%s, %v, %v) = %v, not %v", name, a, h, least, f)
			}
			other := classes[(i+1)%len(classes)]
			if !areCohomologous(t, g, a, f, h) || areCohomologous(t, g, a, h, other) != (len(classes) == 1) {
				t.Errorf("%s, %v: what is cohomologous to %v is wrong", name, a, h)
			}
			if isBounding(t, g, a, h) != (i == 0) {
				t.Errorf("IsBounding(%s, %v, %v) is wrong", name, a, h)
			}
			checkOrderOfClass(t, name, g, a, h)
		}
	})
}

// checkOrderOfClass: the order of a class leads it to a bounding cochain, no smaller number does, and it
// divides the last invariant.
func checkOrderOfClass(t *testing.T, name string, g impl.Group, a impl.Module, f impl.Cochain) {
	t.Helper()
	order := orderOfClass(t, g, a, f)
	zero := impl.Cochain{Degree: f.Degree, Values: make([]int64, len(f.Values))}
	for k := int64(1); k <= order; k++ {
		if isBounding(t, g, a, added(t, g, a, zero, f, k)) != (k == order) {
			t.Errorf("OrderOfClass(%s, %v, %v) = %d", name, a, f, order)
		}
	}
	last := int64(1)
	if invariants := invariantsOf(t, g, a, f.Degree); len(invariants) > 0 {
		last = invariants[len(invariants)-1]
	}
	if !divides(order, last) {
		t.Errorf("%s, %v: the order %d of %v does not divide %d", name, a, order, f, last)
	}
}

// TestLastInvariant: some class has the last invariant as its order.
func TestLastInvariant(t *testing.T) {
	for _, name := range []string{"c4", "klein", "c6", "c8", "c2c4", "dihedral", "quaternion"} {
		g := named(t, name)
		for _, a := range slices.Concat(modulesOf(t, g, 8), modulesOf(t, g, 12)) {
			for n := range int64(3) {
				invariants, greatest := invariantsOf(t, g, a, n), int64(1)
				for _, f := range classList(t, g, a, n) {
					greatest = max(greatest, orderOfClass(t, g, a, f))
				}
				if greatest > 1 && (len(invariants) == 0 || invariants[len(invariants)-1] != greatest) || greatest == 1 && len(invariants) > 0 {
					t.Errorf("%s, %v, %d: the greatest order is %d, the invariants are %v", name, a, n, greatest, invariants)
				}
			}
		}
	}
}

// TestPromise4LeastBounded: the boundary of what is returned is the given cochain, and it is the least of
// all cochains with this boundary: the classes of cocycles and bounding ones lead to none less.
func TestPromise4LeastBounded(t *testing.T) {
	eachCohomology(t, func(name string, g impl.Group, a impl.Module, n int64) {
		if n == 0 {
			return
		}
		h := sampleCochain(g, a, n-1, a.M)
		f := boundaryOf(t, g, a, h)
		bounded := leastBounded(t, g, a, f)
		if !equalCochains(boundaryOf(t, g, a, bounded), f) || slices.Compare(bounded.Values, h.Values) > 0 {
			t.Errorf("LeastBounded(%s, %v, %v) = %v", name, a, f, bounded)
		}
		for i, class := range classList(t, g, a, n-1) {
			cocycle := added(t, g, a, class, sampleBoundary(t, g, a, n-1, int64(i)), 1)
			for k := range a.M {
				other := added(t, g, a, bounded, cocycle, k)
				if slices.Compare(bounded.Values, other.Values) > 0 {
					t.Fatalf("LeastBounded(%s, %v, %v) = %v, not %v", name, a, f, bounded, other)
				}
				if k == 1 && !equalCochains(leastBounded(t, g, a, boundaryOf(t, g, a, other)), bounded) {
					t.Fatalf("LeastBounded(%s, %v, %v) depends on the cocycle %v", name, a, f, cocycle)
				}
			}
		}
	})
}

// TestLeastBoundedWithoutBoundary: classes that are not 0, and what is no cocycle, are no boundaries.
func TestLeastBoundedWithoutBoundary(t *testing.T) {
	eachCohomology(t, func(name string, g impl.Group, a impl.Module, n int64) {
		for i, class := range classList(t, g, a, n) {
			if i%4 == 1 && !failed(all(impl.LeastBounded(g, a, class)), impl.ErrState) {
				t.Errorf("LeastBounded(%s, %v, %v) has no boundary", name, a, class)
			}
		}
		f := sampleCochain(g, a, n, 2*a.M)
		if isCocycle(t, g, a, f) {
			return
		}
		if isBounding(t, g, a, f) || !failed(all(impl.LeastBounded(g, a, f)), impl.ErrState) {
			t.Errorf("%s, %v: %v is no cocycle, but bounding", name, a, f)
		}
		checkNoCocycle(t, name, g, a, f, classList(t, g, a, n)[0])
	})
}

// TestPromise12: the classes of the degree 0 are as many as the fixed numbers, and have these as their
// values. Of the degree 0 only the cochain with the value 0 is bounding.
func TestPromise12(t *testing.T) {
	eachModule(t, func(name string, g impl.Group, a impl.Module) {
		fixed, _ := impl.FixedNumbers(g, a)
		classes := classList(t, g, a, 0)
		same := slices.EqualFunc(classes, fixed, func(f impl.Cochain, x int64) bool {
			return equalCochains(f, impl.Cochain{Values: []int64{x}})
		})
		if !same || orderOfCohomology(t, g, a, 0) != int64(len(fixed)) {
			t.Errorf("ClassList(%s, %v, 0) = %v", name, a, classes)
		}
		if steps := cocycleSteps(t, g, a, 0); !slices.Equal(steps, []int64{int64(len(fixed))}) {
			t.Errorf("CocycleSteps(%s, %v, 0) = %v", name, a, steps)
		}
		if steps := boundingSteps(t, g, a, 0); !slices.Equal(steps, []int64{1}) {
			t.Errorf("BoundingSteps(%s, %v, 0) = %v", name, a, steps)
		}
		if invariants := invariantsOf(t, g, a, 0); len(fixed) == 1 && len(invariants) != 0 || len(fixed) > 1 && !slices.Equal(invariants, []int64{int64(len(fixed))}) {
			t.Errorf("InvariantsOf(%s, %v, 0) = %v", name, a, invariants)
		}
		for x := range a.M {
			f := impl.Cochain{Values: []int64{x}}
			if isBounding(t, g, a, f) != (x == 0) || !failed(all(impl.LeastBounded(g, a, f)), impl.ErrState) {
				t.Errorf("%s, %v: the cochain %v of the degree 0", name, a, f)
			}
		}
	})
}

// TestOneElement: the group with one element has no Values from the degree 1 on, and one class.
func TestOneElement(t *testing.T) {
	c1 := named(t, "c1")
	for m := int64(2); m <= 12; m++ {
		a := impl.Module{M: m, Units: []int64{1}}
		for n := int64(1); n < 4; n++ {
			f := impl.Cochain{Degree: n}
			if len(cocycleSteps(t, c1, a, n)) != 0 || len(boundingSteps(t, c1, a, n)) != 0 || len(invariantsOf(t, c1, a, n)) != 0 || orderOfCohomology(t, c1, a, n) != 1 {
				t.Errorf("c1, %d, %d: wrong numbers", m, n)
			}
			if classes := classList(t, c1, a, n); !slices.EqualFunc(classes, []impl.Cochain{f}, equalCochains) {
				t.Errorf("ClassList(c1, %d, %d) = %v", m, n, classes)
			}
			if !equalCochains(leastCocycle(t, c1, a, f), f) || !areCohomologous(t, c1, a, f, f) || !isBounding(t, c1, a, f) || orderOfClass(t, c1, a, f) != 1 {
				t.Errorf("c1, %d: the cochain %v", m, f)
			}
			want := impl.Cochain{Degree: n - 1}
			if n == 1 {
				want.Values = []int64{0}
			}
			if bounded := leastBounded(t, c1, a, f); !equalCochains(bounded, want) {
				t.Errorf("LeastBounded(c1, %d, %v) = %v", m, f, bounded)
			}
		}
		for x := int64(1); x <= m; x++ {
			f := impl.Cochain{Values: []int64{x % m}}
			if !equalCochains(leastCocycle(t, c1, a, f), f) || orderOfClass(t, c1, a, f) != m/commonByHand(m, x) {
				t.Errorf("c1, %d: the cochain %v", m, f)
			}
		}
	}
}

// TestIsomorphicGroups: renumbered groups with renumbered modules have the same invariants.
func TestIsomorphicGroups(t *testing.T) {
	for _, name := range allNames {
		g := named(t, name)
		count := int64(len(g.Table))
		h := turned(t, g)
		for _, a := range slices.Concat(modulesOf(t, g, 4), modulesOf(t, g, 12)) {
			b := impl.Module{M: a.M, Units: slices.Clone(a.Units)}
			slices.Reverse(b.Units[1:])
			for n := range int64(4) {
				if len(cellsByHand(g, n)) > 49 {
					continue
				}
				if first, second := invariantsOf(t, g, a, n), invariantsOf(t, h, b, n); !slices.Equal(first, second) {
					t.Errorf("%s with %d elements, %v, %d: %v and %v", name, count, a, n, first, second)
				}
			}
		}
	}
}
