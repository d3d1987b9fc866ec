package tests

import (
	"fmt"
	"testing"

	"loop.example/g01363/impl"
)

// compositeModuli are all M that have a divisor k with k and M / k of at least 2.
var compositeModuli = []int64{4, 6, 8, 9, 10, 12}

// divisorsByHand returns all divisors k of m with k and m / k of at least 2, ascending.
func divisorsByHand(m int64) []int64 {
	var found []int64
	for k := int64(2); k < m; k++ {
		if divides(k, m) {
			found = append(found, k)
		}
	}
	return found
}

// sequenceByHand is a group, the three modules of a sequence, and the numbers k and q of its inner and its
// outer module.
type sequenceByHand struct {
	name                string
	g                   impl.Group
	inner, whole, outer impl.Module
	k, q                int64
}

// reducedByHand returns a module with another M and the rests of its units.
func reducedByHand(a impl.Module, k int64) impl.Module {
	b := impl.Module{M: k}
	for _, u := range a.Units {
		b.Units = append(b.Units, restByHand(u, k))
	}
	return b
}

// newSequence returns the sequence of a module and a divisor.
func newSequence(name string, g impl.Group, a impl.Module, k int64) sequenceByHand {
	q := int64(0)
	for q*k < a.M {
		q++
	}
	return sequenceByHand{fmt.Sprint(name, ", ", a, ", ", k), g, reducedByHand(a, k), a, reducedByHand(a, q), k, q}
}

// eachSequence calls a function for all divisors of all modules of all groups with names, and of these
// renumbered.
func eachSequence(t *testing.T, call func(s sequenceByHand)) {
	t.Helper()
	for name, g := range sampleGroups(t) {
		for _, m := range compositeModuli {
			for _, a := range modulesOf(t, g, m) {
				for _, k := range divisorsByHand(m) {
					call(newSequence(name, g, a, k))
				}
			}
		}
	}
}

// eachSomeSequence is as eachSequence, for some modules of each M alone.
func eachSomeSequence(t *testing.T, call func(s sequenceByHand)) {
	t.Helper()
	for name, g := range sampleGroups(t) {
		for _, m := range compositeModuli {
			modules := modulesOf(t, g, m)
			for i := 0; i < len(modules); i += 1 + len(modules)/4 {
				for _, k := range divisorsByHand(m) {
					call(newSequence(name, g, modules[i], k))
				}
			}
		}
	}
}

// hasClasses reports whether the cochains of a degree have few enough values to ask for classes.
func (s sequenceByHand) hasClasses(n int64) bool {
	return n >= 0 && n <= 3 && len(cellsByHand(s.g, n)) <= impl.MaxRank
}

// hasOrders reports whether ImageOrders can be asked for a degree.
func (s sequenceByHand) hasOrders(n int64) bool {
	return n <= 2 && s.hasClasses(n) && s.hasClasses(n+1)
}

// changedByHand returns a cochain with other values.
func changedByHand(f impl.Cochain, change func(x int64) int64) impl.Cochain {
	h := impl.Cochain{Degree: f.Degree}
	for _, x := range f.Values {
		h.Values = append(h.Values, change(x))
	}
	return h
}

// embed returns a cochain of the inner module, embedded by hand.
func (s sequenceByHand) embed(f impl.Cochain) impl.Cochain {
	return changedByHand(f, func(x int64) int64 { return s.q * x })
}

// reduce returns a cochain of the whole module, reduced by hand.
func (s sequenceByHand) reduce(f impl.Cochain) impl.Cochain {
	return changedByHand(f, func(x int64) int64 { return restByHand(x, s.q) })
}

// partsOf returns the values of a cochain, divided by q. All of them have to be its multiples.
func (s sequenceByHand) partsOf(t *testing.T, f impl.Cochain) impl.Cochain {
	t.Helper()
	return changedByHand(f, func(x int64) int64 {
		if !divides(s.q, x) {
			t.Fatalf("%s: %d does not divide the values of %v", s.name, s.q, f)
		}
		return x / s.q
	})
}

// connect returns the connecting cochain of a cocycle of the outer module, made by hand.
func (s sequenceByHand) connect(t *testing.T, f impl.Cochain) impl.Cochain {
	t.Helper()
	return s.partsOf(t, boundaryByHand(s.g, s.whole, f))
}

// embedded returns an embedded cochain.
func (s sequenceByHand) embedded(t *testing.T, f impl.Cochain) impl.Cochain {
	t.Helper()
	return wanted[impl.Cochain](t, "EmbedCochain")(impl.EmbedCochain(s.g, s.whole, s.k, f))
}

// reduced returns a reduced cochain.
func (s sequenceByHand) reduced(t *testing.T, f impl.Cochain) impl.Cochain {
	t.Helper()
	return wanted[impl.Cochain](t, "ReduceCochain")(impl.ReduceCochain(s.g, s.whole, s.k, f))
}

// lifted returns a lifted cochain.
func (s sequenceByHand) lifted(t *testing.T, f impl.Cochain) impl.Cochain {
	t.Helper()
	return wanted[impl.Cochain](t, "LiftCochain")(impl.LiftCochain(s.g, s.whole, s.k, f))
}

// connecting returns a connecting cochain.
func (s sequenceByHand) connecting(t *testing.T, f impl.Cochain) impl.Cochain {
	t.Helper()
	return wanted[impl.Cochain](t, "ConnectingCochain")(impl.ConnectingCochain(s.g, s.whole, s.k, f))
}

// imageOrders returns the numbers of classes in the three images.
func (s sequenceByHand) imageOrders(t *testing.T, n int64) []int64 {
	t.Helper()
	orders := wanted[[]int64](t, "ImageOrders")(impl.ImageOrders(s.g, s.whole, s.k, n))
	if len(orders) != 3 {
		t.Fatalf("ImageOrders(%s, %d) = %v", s.name, n, orders)
	}
	return orders
}

// sequenceModuleCalls calls all functions of the chapter that ask for nothing but a module and k.
func sequenceModuleCalls(g impl.Group, a impl.Module, k int64) map[string][]any {
	return map[string][]any{
		"InnerModule": all(impl.InnerModule(g, a, k)),
		"OuterModule": all(impl.OuterModule(g, a, k)),
	}
}

// sequenceCochainCalls calls all functions of the chapter that ask for a cochain.
func sequenceCochainCalls(g impl.Group, a impl.Module, k int64, f impl.Cochain) map[string][]any {
	return map[string][]any{
		"EmbedCochain":      all(impl.EmbedCochain(g, a, k, f)),
		"ReduceCochain":     all(impl.ReduceCochain(g, a, k, f)),
		"LiftCochain":       all(impl.LiftCochain(g, a, k, f)),
		"ConnectingCochain": all(impl.ConnectingCochain(g, a, k, f)),
	}
}

// imageCalls calls ImageOrders.
func imageCalls(g impl.Group, a impl.Module, k, n int64) map[string][]any {
	return map[string][]any{"ImageOrders": all(impl.ImageOrders(g, a, k, n))}
}

// checkSequenceCode reports the functions of the chapter that do not return a code.
func checkSequenceCode(t *testing.T, what string, code int64, g impl.Group, a impl.Module, k, n int64, f impl.Cochain) {
	t.Helper()
	checkCode(t, what, code, sequenceModuleCalls(g, a, k))
	checkCode(t, what, code, sequenceCochainCalls(g, a, k, f))
	checkCode(t, what, code, imageCalls(g, a, k, n))
}
