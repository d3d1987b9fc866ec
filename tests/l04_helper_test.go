package tests

import (
	"testing"

	"loop.example/g01363/impl"
)

// valuesKey returns Values as a key.
func valuesKey(values []int64) string {
	key := make([]byte, len(values))
	for i, x := range values {
		key[i] = byte(x)
	}
	return string(key)
}

// handCohomology is what is known of the cochains of one degree by looking at all of them.
type handCohomology struct {
	cochains []impl.Cochain          // all of them, in lexicographic order
	cocycles []impl.Cochain          // in lexicographic order
	bounding []impl.Cochain          // each one once
	isOne    map[string]bool         // whether it is bounding
	bounded  map[string]impl.Cochain // the least cochain with a boundary
	least    map[string]impl.Cochain // the least cocycle of the class of a cocycle
	classes  []impl.Cochain          // the least cocycles, in lexicographic order
}

// cohomologyByHand looks at all cochains of the degree n.
func cohomologyByHand(g impl.Group, a impl.Module, n int64) handCohomology {
	h := handCohomology{cochains: allCochains(g, a, n), isOne: map[string]bool{}, bounded: map[string]impl.Cochain{}, least: map[string]impl.Cochain{}}
	for _, f := range h.cochains {
		if isZeroCochain(boundaryByHand(g, a, f)) {
			h.cocycles = append(h.cocycles, f)
		}
	}
	h.findBounding(g, a, n)
	for _, b := range h.bounding {
		h.isOne[valuesKey(b.Values)] = true
	}
	for _, f := range h.cocycles {
		if _, seen := h.least[valuesKey(f.Values)]; seen {
			continue
		}
		h.classes = append(h.classes, f)
		for _, b := range h.bounding {
			h.least[valuesKey(sumByHand(a.M, f.Values, b.Values))] = f
		}
	}
	return h
}

// findBounding makes the boundaries of all cochains of the degree below.
func (h *handCohomology) findBounding(g impl.Group, a impl.Module, n int64) {
	if n == 0 {
		h.bounding = []impl.Cochain{{Values: []int64{0}}}
		return
	}
	for _, f := range allCochains(g, a, n-1) {
		b := boundaryByHand(g, a, f)
		if _, seen := h.bounded[valuesKey(b.Values)]; !seen {
			h.bounded[valuesKey(b.Values)] = f
			h.bounding = append(h.bounding, b)
		}
	}
}

// isBounding reports whether a cochain is among the bounding ones.
func (h *handCohomology) isBounding(f impl.Cochain) bool { return h.isOne[valuesKey(f.Values)] }

// sumByHand returns the rests of the sums of values.
func sumByHand(m int64, first, second []int64) []int64 {
	sum := make([]int64, len(first))
	for i, x := range first {
		sum[i] = restByHand(x+second[i], m)
	}
	return sum
}

// stepsByHand returns, for each place, how many different values there those cochains have that have 0
// at all places before.
func stepsByHand(cells int, cochains []impl.Cochain) []int64 {
	steps := make([]int64, cells)
	for place := range cells {
		values := map[int64]bool{}
		for _, f := range cochains {
			if isZeroCochain(impl.Cochain{Values: f.Values[:place]}) {
				values[f.Values[place]] = true
			}
		}
		steps[place] = int64(len(values))
	}
	return steps
}

// productOfNumbers returns the product of some numbers.
func productOfNumbers(numbers []int64) int64 {
	product := int64(1)
	for _, x := range numbers {
		product *= x
	}
	return product
}

// commonByHand returns the greatest number that divides both numbers.
func commonByHand(x, y int64) int64 {
	d := min(x, y)
	for x%d != 0 || y%d != 0 {
		d--
	}
	return d
}

// areInvariants reports whether numbers greater than 1, each one a divisor of the next one, have as
// many elements whose multiple by d is 0 as cyclic groups of given orders have together, for each d.
// That tells a group whose orders of elements are at most 12.
func areInvariants(invariants, parts []int64) bool {
	for i, x := range invariants {
		if x < 2 || i > 0 && x%invariants[i-1] != 0 {
			return false
		}
	}
	if productOfNumbers(invariants) != productOfNumbers(parts) {
		return false
	}
	for d := int64(1); d <= 12; d++ {
		first, second := int64(1), int64(1)
		for _, x := range invariants {
			first *= commonByHand(d, x)
		}
		for _, x := range parts {
			second *= commonByHand(d, x)
		}
		if first != second {
			return false
		}
	}
	return true
}

// eachCohomology calls a function for some modules of all groups with names, and of these renumbered,
// and all degrees whose cochains have at most 49 values.
func eachCohomology(t *testing.T, call func(name string, g impl.Group, a impl.Module, n int64)) {
	t.Helper()
	for name, g := range sampleGroups(t) {
		for m := int64(2); m <= 12; m++ {
			modules := modulesOf(t, g, m)
			for i := 0; i < len(modules); i += 1 + len(modules)/4 {
				for n := range int64(4) {
					if len(cellsByHand(g, n)) <= 49 {
						call(name, g, modules[i], n)
					}
				}
			}
		}
	}
}

// eachSmallCohomology is as eachCohomology, where there are at most 2200 cochains to look at.
func eachSmallCohomology(t *testing.T, call func(name string, g impl.Group, a impl.Module, n int64, h handCohomology)) {
	t.Helper()
	eachCohomology(t, func(name string, g impl.Group, a impl.Module, n int64) {
		count := int64(1)
		for range cellsByHand(g, n) {
			count = min(count*a.M, 10000)
		}
		if count <= 2200 {
			call(name, g, a, n, cohomologyByHand(g, a, n))
		}
	})
}

// wanted returns the first result of a call, whose code has to be ErrNone.
func wanted[T any](t *testing.T, what string) func(result T, code int64) T {
	return func(result T, code int64) T {
		t.Helper()
		if code != impl.ErrNone {
			t.Fatalf("%s = %v, %d", what, result, code)
		}
		return result
	}
}

// cocycleSteps returns the steps of cocycles.
func cocycleSteps(t *testing.T, g impl.Group, a impl.Module, n int64) []int64 {
	t.Helper()
	return wanted[[]int64](t, "CocycleSteps")(impl.CocycleSteps(g, a, n))
}

// boundingSteps returns the steps of bounding cochains.
func boundingSteps(t *testing.T, g impl.Group, a impl.Module, n int64) []int64 {
	t.Helper()
	return wanted[[]int64](t, "BoundingSteps")(impl.BoundingSteps(g, a, n))
}

// invariantsOf returns the invariants of a cohomology group.
func invariantsOf(t *testing.T, g impl.Group, a impl.Module, n int64) []int64 {
	t.Helper()
	return wanted[[]int64](t, "InvariantsOf")(impl.InvariantsOf(g, a, n))
}

// orderOfCohomology returns the number of classes.
func orderOfCohomology(t *testing.T, g impl.Group, a impl.Module, n int64) int64 {
	t.Helper()
	return wanted[int64](t, "OrderOfCohomology")(impl.OrderOfCohomology(g, a, n))
}

// leastCocycle returns the least cocycle of a class.
func leastCocycle(t *testing.T, g impl.Group, a impl.Module, f impl.Cochain) impl.Cochain {
	t.Helper()
	return wanted[impl.Cochain](t, "LeastCocycle")(impl.LeastCocycle(g, a, f))
}

// areCohomologous reports whether two cocycles are cohomologous.
func areCohomologous(t *testing.T, g impl.Group, a impl.Module, f, h impl.Cochain) bool {
	t.Helper()
	return wanted[bool](t, "AreCohomologous")(impl.AreCohomologous(g, a, f, h))
}

// isBounding reports whether a cochain is bounding.
func isBounding(t *testing.T, g impl.Group, a impl.Module, f impl.Cochain) bool {
	t.Helper()
	return wanted[bool](t, "IsBounding")(impl.IsBounding(g, a, f))
}

// leastBounded returns the least cochain with a boundary.
func leastBounded(t *testing.T, g impl.Group, a impl.Module, f impl.Cochain) impl.Cochain {
	t.Helper()
	return wanted[impl.Cochain](t, "LeastBounded")(impl.LeastBounded(g, a, f))
}

// orderOfClass returns the order of a class.
func orderOfClass(t *testing.T, g impl.Group, a impl.Module, f impl.Cochain) int64 {
	t.Helper()
	return wanted[int64](t, "OrderOfClass")(impl.OrderOfClass(g, a, f))
}

// classList returns the least cocycles of all classes.
func classList(t *testing.T, g impl.Group, a impl.Module, n int64) []impl.Cochain {
	t.Helper()
	return wanted[[]impl.Cochain](t, "ClassList")(impl.ClassList(g, a, n))
}
