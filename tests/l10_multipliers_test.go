package tests

import (
	"fmt"
	"slices"
	"testing"

	"loop.example/g01363/impl"
)

// eachKnown calls a function for all groups with names, and for these renumbered, with their names alone.
func eachKnown(t *testing.T, call func(name string, g impl.Group)) {
	t.Helper()
	for _, name := range allNames {
		call(name, named(t, name))
		call(name, turned(t, named(t, name)))
	}
}

// TestMultiplierExample is the example of the chapter, with the abelian invariants of its groups.
func TestMultiplierExample(t *testing.T) {
	klein, quaternion := named(t, "klein"), named(t, "quaternion")
	if got := multiplierOf(t, klein); !slices.Equal(got, []int64{2}) {
		t.Errorf("MultiplierOf(klein) = %v", got)
	}
	if got := multiplierOf(t, quaternion); len(got) != 0 {
		t.Errorf("MultiplierOf(quaternion) = %v", got)
	}
	for _, g := range []impl.Group{klein, quaternion} {
		if got := abelianInvariants(t, g); !slices.Equal(got, []int64{2, 2}) {
			t.Errorf("AbelianInvariants = %v", got)
		}
	}
}

// TestInvariantsKnown: both kinds of invariants of all groups with names, those with several powers of one prime,
// or of several primes, among them.
func TestInvariantsKnown(t *testing.T) {
	eachKnown(t, func(name string, g impl.Group) {
		if got := abelianInvariants(t, g); !slices.Equal(got, cyclicParts[name]) {
			t.Errorf("AbelianInvariants(%s) = %v, not %v", name, got, cyclicParts[name])
		}
		if got := multiplierOf(t, g); !slices.Equal(got, secondHomology[name]) {
			t.Errorf("MultiplierOf(%s) = %v, not %v", name, got, secondHomology[name])
		}
	})
}

// TestInvariantsOfOneElement: the group with one element has neither kind of invariants.
func TestInvariantsOfOneElement(t *testing.T) {
	c1 := named(t, "c1")
	for call, results := range groupOwnCalls(c1) {
		if !failed(results, impl.ErrNone) {
			t.Errorf("%s(c1): %v", call, results)
		}
	}
}

// TestInvariantsAreDivisors: each invariant is greater than 1, and a divisor of the next one.
func TestInvariantsAreDivisors(t *testing.T) {
	for name, g := range sampleGroups(t) {
		for _, invariants := range [][]int64{abelianInvariants(t, g), multiplierOf(t, g)} {
			for i, x := range invariants {
				if x < 2 || i > 0 && !divides(invariants[i-1], x) {
					t.Errorf("%s has the invariants %v", name, invariants)
				}
			}
		}
	}
}

// TestAbelianInvariantsOfQuotient: the quotient by the derived subgroup has, for each k, as many elements whose power
// of k is 0 as the direct product of cyclic groups of the orders that the invariants tell.
func TestAbelianInvariantsOfQuotient(t *testing.T) {
	for name, g := range sampleGroups(t) {
		derived := wanted[[]int64](t, "DerivedOf")(impl.DerivedOf(g))
		quotient, _, code := impl.QuotientOf(g, derived)
		if code != impl.ErrNone {
			t.Fatalf("QuotientOf(%s, %v): code %d", name, derived, code)
		}
		invariants := abelianInvariants(t, g)
		if own := abelianInvariants(t, quotient); !slices.Equal(own, invariants) {
			t.Errorf("AbelianInvariants(%s) = %v, those of the quotient are %v", name, invariants, own)
		}
		if productOfNumbers(invariants) != int64(len(quotient.Table)) {
			t.Errorf("AbelianInvariants(%s) = %v of %d elements", name, invariants, len(quotient.Table))
		}
		orders := wanted[[]int64](t, "OrdersOf")(impl.OrdersOf(quotient))
		for k := int64(1); k <= 8; k++ {
			want, count := int64(1), int64(0)
			for _, x := range invariants {
				want *= commonByHand(k, x)
			}
			for _, order := range orders {
				if divides(order, k) {
					count++
				}
			}
			if count != want {
				t.Errorf("AbelianInvariants(%s) = %v, but %d elements have the power 0 of %d", name, invariants, count, k)
			}
		}
	}
}

// TestPromise10Numbers: the number of the classes of the degree 2 for M = N is the product of both kinds of invariants.
func TestPromise10Numbers(t *testing.T) {
	for name, g := range sampleGroups(t) {
		if len(g.Table) == 1 {
			continue
		}
		a := trivialByHand(g, int64(len(g.Table)))
		product := productOfNumbers(abelianInvariants(t, g)) * productOfNumbers(multiplierOf(t, g))
		if order := orderOfCohomology(t, g, a, 2); order != product || len(classList(t, g, a, 2)) != int(product) {
			t.Errorf("%s has %d classes for M = N, the product of the invariants is %d", name, order, product)
		}
	}
}

// primePowersByHand returns the powers of different primes whose products some numbers are, ascending.
func primePowersByHand(numbers []int64) []int64 {
	var powers []int64
	for _, x := range numbers {
		for p := int64(2); x > 1; p++ {
			power := int64(1)
			for ; x%p == 0; x /= p {
				power *= p
			}
			if power > 1 {
				powers = append(powers, power)
			}
		}
	}
	slices.Sort(powers)
	return powers
}

// TestPromise10Powers: the invariants of the degree 2 for M = N, told by powers of primes, are those of both kinds
// together.
func TestPromise10Powers(t *testing.T) {
	for name, g := range sampleGroups(t) {
		if len(g.Table) == 1 {
			continue
		}
		whole := primePowersByHand(invariantsOf(t, g, trivialByHand(g, int64(len(g.Table))), 2))
		both := primePowersByHand(slices.Concat(abelianInvariants(t, g), multiplierOf(t, g)))
		if !slices.Equal(whole, both) {
			t.Errorf("%s has the powers %v for M = N, both kinds have %v", name, whole, both)
		}
	}
}

// TestNoMultiplierOfCyclicGroups: cyclic groups have none, and other abelian groups have one.
func TestNoMultiplierOfCyclicGroups(t *testing.T) {
	for name, g := range sampleGroups(t) {
		orders := wanted[[]int64](t, "OrdersOf")(impl.OrdersOf(g))
		isCyclic := slices.Contains(orders, int64(len(g.Table)))
		isAbelian := wanted[bool](t, "IsAbelian")(impl.IsAbelian(g))
		multiplier := multiplierOf(t, g)
		if isAbelian && isCyclic != (len(multiplier) == 0) {
			t.Errorf("MultiplierOf(%s) = %v", name, multiplier)
		}
		if invariants := abelianInvariants(t, g); isAbelian && isCyclic && len(g.Table) > 1 && !slices.Equal(invariants, []int64{int64(len(g.Table))}) {
			t.Errorf("AbelianInvariants(%s) = %v", name, invariants)
		}
	}
}

// TestFormsTellMultipliers: an abelian group has, for M = N, as many different forms as the product of the invariants
// of the multiplier tells, and as many classes with each of them as that of the abelian ones.
func TestFormsTellMultipliers(t *testing.T) {
	for name, g := range sampleGroups(t) {
		isAbelian := wanted[bool](t, "IsAbelian")(impl.IsAbelian(g))
		if !isAbelian || len(g.Table) == 1 {
			continue
		}
		m := int64(len(g.Table))
		counts := map[string]int64{}
		for _, f := range classList(t, g, trivialByHand(g, m), 2) {
			counts[fmt.Sprint(formOf(t, g, m, f))]++
		}
		if want := productOfNumbers(multiplierOf(t, g)); int64(len(counts)) != want {
			t.Errorf("%s has %d forms for M = N, not %d", name, len(counts), want)
		}
		for form, count := range counts {
			if want := productOfNumbers(abelianInvariants(t, g)); count != want {
				t.Errorf("%s has the form %s for %d classes, not %d", name, form, count, want)
			}
		}
	}
}
