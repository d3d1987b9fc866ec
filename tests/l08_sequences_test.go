package tests

import (
	"slices"
	"testing"

	"loop.example/g01363/impl"
)

// TestSequenceExample is the example of the chapter, with what leads to it.
func TestSequenceExample(t *testing.T) {
	c2 := named(t, "c2")
	s := newSequence("c2", c2, impl.Module{M: 4, Units: []int64{1, 1}}, 2)
	one := impl.Cochain{Degree: 1, Values: []int64{1}}
	if got := s.connecting(t, one); !equalCochains(got, impl.Cochain{Degree: 2, Values: []int64{1}}) {
		t.Errorf("ConnectingCochain = %v", got)
	}
	if got := s.embedded(t, one); !equalCochains(got, impl.Cochain{Degree: 1, Values: []int64{2}}) {
		t.Errorf("EmbedCochain = %v", got)
	}
	if got := s.lifted(t, one); !equalCochains(got, one) {
		t.Errorf("LiftCochain = %v", got)
	}
	if got := s.reduced(t, impl.Cochain{Degree: 1, Values: []int64{3}}); !equalCochains(got, one) {
		t.Errorf("ReduceCochain = %v", got)
	}
}

// TestConnectingKnown: connecting cochains with values that are easy to find.
func TestConnectingKnown(t *testing.T) {
	cases := []struct {
		name  string
		a     impl.Module
		k     int64
		f     impl.Cochain
		wants impl.Cochain
	}{
		// x goes to -1 times x less x: that is -2 x, and divided by 2.
		{"c2", impl.Module{M: 4, Units: []int64{1, 3}}, 2, impl.Cochain{Values: []int64{1}}, impl.Cochain{Degree: 1, Values: []int64{1}}},
		{"c2", impl.Module{M: 8, Units: []int64{1, 7}}, 4, impl.Cochain{Values: []int64{1}}, impl.Cochain{Degree: 1, Values: []int64{3}}},
		{"c2", impl.Module{M: 8, Units: []int64{1, 3}}, 4, impl.Cochain{Values: []int64{1}}, impl.Cochain{Degree: 1, Values: []int64{1}}},
		{"c2", impl.Module{M: 8, Units: []int64{1, 5}}, 2, impl.Cochain{Values: []int64{3}}, impl.Cochain{Degree: 1, Values: []int64{1}}},
		// The values 1 and 2 are those of a homomorphism to the numbers modulo 3; what goes beyond 3 is 3.
		{"c3", impl.Module{M: 9, Units: []int64{1, 1, 1}}, 3, impl.Cochain{Degree: 1, Values: []int64{1, 2}}, impl.Cochain{Degree: 2, Values: []int64{0, 1, 1, 1}}},
		{"c3", impl.Module{M: 9, Units: []int64{1, 1, 1}}, 3, impl.Cochain{Degree: 1, Values: []int64{2, 1}}, impl.Cochain{Degree: 2, Values: []int64{1, 1, 1, 0}}},
		{"c3", impl.Module{M: 12, Units: []int64{1, 1, 1}}, 4, impl.Cochain{Degree: 1, Values: []int64{1, 2}}, impl.Cochain{Degree: 2, Values: []int64{0, 1, 1, 1}}},
		// Of c2 with the value v of the degree 2, that of the boundary is v less v for the trivial module, and 2 v for the unit -1.
		{"c2", impl.Module{M: 4, Units: []int64{1, 1}}, 2, impl.Cochain{Degree: 2, Values: []int64{1}}, impl.Cochain{Degree: 3, Values: []int64{0}}},
		{"c2", impl.Module{M: 4, Units: []int64{1, 3}}, 2, impl.Cochain{Degree: 2, Values: []int64{1}}, impl.Cochain{Degree: 3, Values: []int64{1}}},
	}
	for _, c := range cases {
		s := newSequence(c.name, named(t, c.name), c.a, c.k)
		if got := s.connecting(t, c.f); !equalCochains(got, c.wants) {
			t.Errorf("ConnectingCochain(%s, %v) = %v, not %v", s.name, c.f, got, c.wants)
		}
	}
}

// TestInnerAndOuterModules: both are modules, with k and M / k, and the rests of the units.
func TestInnerAndOuterModules(t *testing.T) {
	eachSequence(t, func(s sequenceByHand) {
		inner := wanted[impl.Module](t, "InnerModule")(impl.InnerModule(s.g, s.whole, s.k))
		outer := wanted[impl.Module](t, "OuterModule")(impl.OuterModule(s.g, s.whole, s.k))
		if !equalModules(inner, s.inner) || !isModuleByHand(s.g, inner) {
			t.Errorf("InnerModule(%s) = %v", s.name, inner)
		}
		if !equalModules(outer, s.outer) || !isModuleByHand(s.g, outer) {
			t.Errorf("OuterModule(%s) = %v", s.name, outer)
		}
		if inner.M != s.k || inner.M*outer.M != s.whole.M {
			t.Errorf("%s: M of the inner module is %d, of the outer one %d", s.name, inner.M, outer.M)
		}
		if exchanged, code := impl.OuterModule(s.g, s.whole, s.q); code != impl.ErrNone || !equalModules(exchanged, inner) {
			t.Errorf("%s: the outer module of %d is %v, %d", s.name, s.q, exchanged, code)
		}
	})
}

// checkCochainOf reports what is no cochain of a module, or has another degree.
func checkCochainOf(t *testing.T, what string, g impl.Group, a impl.Module, n int64, f impl.Cochain) {
	t.Helper()
	if is, code := impl.IsCochain(g, a, f); code != impl.ErrNone || !is || f.Degree != n {
		t.Errorf("%s: %v is no cochain of %v with the degree %d", what, f, a, n)
	}
}

// TestPromise8Values: embedded cochains are reduced to 0, and lifted ones to themselves. All of them have the
// values that the document tells.
func TestPromise8Values(t *testing.T) {
	eachSequence(t, func(s sequenceByHand) {
		for n := range int64(4) {
			if n == 3 && !hasAllDegrees(s.g, s.whole) {
				continue
			}
			f, h, r := sampleCochain(s.g, s.inner, n, s.k), sampleCochain(s.g, s.whole, n, s.k+1), sampleCochain(s.g, s.outer, n, s.k+2)
			embedded, reduced, lifted := s.embedded(t, f), s.reduced(t, h), s.lifted(t, r)
			checkCochainOf(t, s.name, s.g, s.whole, n, embedded)
			checkCochainOf(t, s.name, s.g, s.outer, n, reduced)
			checkCochainOf(t, s.name, s.g, s.whole, n, lifted)
			if !equalCochains(embedded, s.embed(f)) || !equalCochains(reduced, s.reduce(h)) || !equalCochains(lifted, r) {
				t.Errorf("%s: %v, %v and %v are embedded, reduced and lifted to %v, %v and %v", s.name, f, h, r, embedded, reduced, lifted)
			}
			if zero := s.reduced(t, embedded); !isZeroCochain(zero) || len(zero.Values) != len(f.Values) || zero.Degree != n {
				t.Errorf("%s: the embedded %v is reduced to %v", s.name, f, zero)
			}
			if again := s.reduced(t, lifted); !equalCochains(again, r) {
				t.Errorf("%s: the lifted %v is reduced to %v", s.name, r, again)
			}
		}
	})
}

// TestEachValue embeds, reduces and lifts each value that there is.
func TestEachValue(t *testing.T) {
	for _, m := range compositeModuli {
		for _, name := range []string{"c1", "c2", "s3"} {
			g := named(t, name)
			for _, k := range divisorsByHand(m) {
				s := newSequence(name, g, modulesOf(t, g, m)[0], k)
				for x := range m {
					if got := s.reduced(t, impl.Cochain{Values: []int64{x}}); !equalCochains(got, impl.Cochain{Values: []int64{restByHand(x, s.q)}}) {
						t.Errorf("%s: %d is reduced to %v", s.name, x, got)
					}
				}
				for x := range k {
					if got := s.embedded(t, impl.Cochain{Values: []int64{x}}); !equalCochains(got, impl.Cochain{Values: []int64{x * s.q}}) {
						t.Errorf("%s: %d is embedded as %v", s.name, x, got)
					}
				}
				for x := range s.q {
					if got := s.lifted(t, impl.Cochain{Values: []int64{x}}); !equalCochains(got, impl.Cochain{Values: []int64{x}}) {
						t.Errorf("%s: %d is lifted to %v", s.name, x, got)
					}
				}
			}
		}
	}
}

// TestBoundariesOfSequences: boundaries are embedded to boundaries, and reduced to boundaries. So cocycles are
// led to cocycles.
func TestBoundariesOfSequences(t *testing.T) {
	eachSomeSequence(t, func(s sequenceByHand) {
		for n := range int64(3) {
			if n == 2 && !hasAllDegrees(s.g, s.whole) {
				continue
			}
			f, h := sampleCochain(s.g, s.inner, n, s.q), sampleCochain(s.g, s.whole, n, s.q+1)
			if first, second := s.embedded(t, boundaryOf(t, s.g, s.inner, f)), boundaryOf(t, s.g, s.whole, s.embedded(t, f)); !equalCochains(first, second) {
				t.Errorf("%s: the boundary of the embedded %v is %v, not %v", s.name, f, second, first)
			}
			if first, second := s.reduced(t, boundaryOf(t, s.g, s.whole, h)), boundaryOf(t, s.g, s.outer, s.reduced(t, h)); !equalCochains(first, second) {
				t.Errorf("%s: the boundary of the reduced %v is %v, not %v", s.name, h, second, first)
			}
		}
	})
}

// connectedDegrees returns the degrees whose connecting cochains are looked at.
func (s sequenceByHand) connectedDegrees() []int64 {
	if hasAllDegrees(s.g, s.whole) {
		return []int64{0, 1, 2}
	}
	return []int64{0, 1}
}

// TestPromise8Connecting: connecting cochains of the degrees 0, 1 and 2 are cocycles of the inner module, and
// have the values of the boundary of the lifted cochain, divided by q.
func TestPromise8Connecting(t *testing.T) {
	eachSomeSequence(t, func(s sequenceByHand) {
		for _, n := range s.connectedDegrees() {
			for _, f := range someCocycles(t, s.g, s.outer, n) {
				connecting := s.connecting(t, f)
				checkCochainOf(t, s.name, s.g, s.inner, n+1, connecting)
				if !isCocycle(t, s.g, s.inner, connecting) {
					t.Errorf("%s: the connecting cochain %v of %v is no cocycle", s.name, connecting, f)
				}
				if want := s.connect(t, f); !equalCochains(connecting, want) {
					t.Errorf("ConnectingCochain(%s, %v) = %v, not %v", s.name, f, connecting, want)
				}
				if boundary := boundaryOf(t, s.g, s.whole, s.lifted(t, f)); !equalCochains(s.embedded(t, connecting), boundary) {
					t.Errorf("%s: the connecting cochain %v of %v is no part of %v", s.name, connecting, f, boundary)
				}
			}
		}
	})
}

// difference returns f less h.
func difference(t *testing.T, g impl.Group, a impl.Module, f, h impl.Cochain) impl.Cochain {
	t.Helper()
	return added(t, g, a, f, h, -1)
}

// TestPromise8Cohomologous: where cocycles differ by the boundary of some h, what is lifted differs by that of
// the lifted h, less q times some c; the connecting cochains differ by the boundary of c.
func TestPromise8Cohomologous(t *testing.T) {
	eachSomeSequence(t, func(s sequenceByHand) {
		for _, n := range s.connectedDegrees() {
			if n == 0 {
				continue
			}
			for i, f := range someCocycles(t, s.g, s.outer, n) {
				h := sampleCochain(s.g, s.outer, n-1, int64(i)+s.k)
				other := added(t, s.g, s.outer, f, boundaryOf(t, s.g, s.outer, h), 1)
				beyond := added(t, s.g, s.whole, f, boundaryOf(t, s.g, s.whole, h), 1)
				c := s.partsOf(t, difference(t, s.g, s.whole, beyond, other))
				first, second := s.connecting(t, f), s.connecting(t, other)
				if boundary := boundaryOf(t, s.g, s.inner, c); !equalCochains(difference(t, s.g, s.inner, first, second), boundary) {
					t.Errorf("%s: the connecting cochains of %v and %v do not differ by %v", s.name, f, other, boundary)
				}
				if s.hasClasses(n+1) && !areCohomologous(t, s.g, s.inner, first, second) {
					t.Errorf("%s: the connecting cochains of %v and %v are not cohomologous", s.name, f, other)
				}
			}
		}
	})
}

// TestConnectingOfReduced: what comes from a cocycle of the whole module has a connecting cochain that is
// bounding.
func TestConnectingOfReduced(t *testing.T) {
	eachSomeSequence(t, func(s sequenceByHand) {
		for n := range int64(3) {
			if !s.hasClasses(n + 1) {
				continue
			}
			for _, f := range someCocycles(t, s.g, s.whole, n) {
				if connecting := s.connecting(t, s.reduced(t, f)); !isBounding(t, s.g, s.inner, connecting) {
					t.Errorf("%s: the connecting cochain %v of the reduced %v is not bounding", s.name, connecting, f)
				}
			}
		}
	})
}

// TestConnectingByHand looks at all cochains of small groups: cocycles have connecting cochains, and others
// have none.
func TestConnectingByHand(t *testing.T) {
	none := 0
	for _, name := range []string{"c1", "c2", "c3", "klein", "c4"} {
		g := named(t, name)
		for _, m := range compositeModuli {
			for _, a := range modulesOf(t, g, m) {
				for _, k := range divisorsByHand(m) {
					s := newSequence(name, g, a, k)
					for n := range int64(3) {
						if len(cellsByHand(g, n)) <= 4 {
							none += checkAllConnecting(t, s, n)
						}
					}
				}
			}
		}
	}
	if none == 0 {
		t.Error("all cochains are cocycles")
	}
}

// checkAllConnecting looks at all cochains of the degree n, and returns the number of those that are no
// cocycles.
func checkAllConnecting(t *testing.T, s sequenceByHand, n int64) int {
	t.Helper()
	none := 0
	for _, f := range allCochains(s.g, s.outer, n) {
		if !isCocycleByHand(s.g, s.outer, f) {
			none++
			if results := all(impl.ConnectingCochain(s.g, s.whole, s.k, f)); !failed(results, impl.ErrState) {
				t.Errorf("ConnectingCochain(%s, %v): %v", s.name, f, results)
			}
			continue
		}
		connecting := s.connecting(t, f)
		if !equalCochains(connecting, s.connect(t, f)) || !isCocycleByHand(s.g, s.inner, connecting) {
			t.Errorf("ConnectingCochain(%s, %v) = %v", s.name, f, connecting)
		}
	}
	return none
}

// TestSequencesOfOneElement: the group with one element has one value in the degree 0, and none above.
func TestSequencesOfOneElement(t *testing.T) {
	c1 := named(t, "c1")
	for _, m := range compositeModuli {
		for _, k := range divisorsByHand(m) {
			s := newSequence("c1", c1, impl.Module{M: m, Units: []int64{1}}, k)
			for x := range s.q {
				if got := s.connecting(t, impl.Cochain{Values: []int64{x}}); !equalCochains(got, impl.Cochain{Degree: 1}) {
					t.Errorf("ConnectingCochain(%s, %d) = %v", s.name, x, got)
				}
			}
			for n := int64(1); n < 4; n++ {
				f := impl.Cochain{Degree: n}
				for call, results := range sequenceCochainCalls(c1, s.whole, k, f) {
					wants := f
					if call == "ConnectingCochain" {
						wants.Degree++
					}
					if n == 3 && call == "ConnectingCochain" {
						if !failed(results, impl.ErrRange) {
							t.Errorf("%s(%s, %v): %v", call, s.name, f, results)
						}
						continue
					}
					if !equalCochains(results[0].(impl.Cochain), wants) || codeOf(results) != impl.ErrNone {
						t.Errorf("%s(%s, %v): %v", call, s.name, f, results)
					}
				}
			}
			for n := range int64(3) {
				wants := []int64{k, s.q, 1}
				if n > 0 {
					wants = []int64{1, 1, 1}
				}
				if got := s.imageOrders(t, n); !slices.Equal(got, wants) {
					t.Errorf("ImageOrders(%s, %d) = %v", s.name, n, got)
				}
			}
		}
	}
}

// TestLongestValues: cochains of the degree 3 have up to MaxCells values, and connecting cochains of the
// degree 2 too, though classes are not asked for so many.
func TestLongestValues(t *testing.T) {
	for _, name := range []string{"c8", "cube", "quaternion"} {
		g := named(t, name)
		for _, a := range []impl.Module{modulesOf(t, g, 12)[0], modulesOf(t, g, 12)[3]} {
			s := newSequence(name, g, a, 6)
			f, h, r := sampleCochain(g, s.inner, 3, 1), sampleCochain(g, a, 3, 2), sampleCochain(g, s.outer, 3, 3)
			if !equalCochains(s.embedded(t, f), s.embed(f)) || !equalCochains(s.reduced(t, h), s.reduce(h)) || !equalCochains(s.lifted(t, r), r) {
				t.Errorf("%s: the degree 3", s.name)
			}
			for _, f := range someCocycles(t, g, s.outer, 2) {
				connecting := s.connecting(t, f)
				if len(connecting.Values) != impl.MaxCells || !equalCochains(connecting, s.connect(t, f)) || !isCocycle(t, g, s.inner, connecting) {
					t.Errorf("ConnectingCochain(%s, %v) = %v", s.name, f, connecting)
				}
			}
		}
	}
}
