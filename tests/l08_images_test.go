package tests

import (
	"slices"
	"testing"

	"loop.example/g01363/impl"
)

// TestImageOrdersKnown: numbers that are found from the numbers of classes alone, going from degree to degree.
func TestImageOrdersKnown(t *testing.T) {
	cases := []struct {
		name   string
		a      impl.Module
		k      int64
		orders [][]int64
	}{
		{"c2", impl.Module{M: 4, Units: []int64{1, 1}}, 2, [][]int64{{2, 2, 1}, {2, 1, 2}, {1, 2, 1}}},
		{"c2", impl.Module{M: 4, Units: []int64{1, 3}}, 2, [][]int64{{2, 1, 2}, {1, 2, 1}, {2, 1, 2}}},
		{"c2", impl.Module{M: 6, Units: []int64{1, 1}}, 2, [][]int64{{2, 3, 1}, {2, 1, 1}, {2, 1, 1}}},
		{"c2", impl.Module{M: 6, Units: []int64{1, 1}}, 3, [][]int64{{3, 2, 1}, {1, 2, 1}, {1, 2, 1}}},
		{"c2", impl.Module{M: 6, Units: []int64{1, 5}}, 3, [][]int64{{1, 2, 1}, {1, 2, 1}, {1, 2, 1}}},
		{"c3", impl.Module{M: 9, Units: []int64{1, 1, 1}}, 3, [][]int64{{3, 3, 1}, {3, 1, 3}, {1, 3, 1}}},
		{"c3", impl.Module{M: 4, Units: []int64{1, 1, 1}}, 2, [][]int64{{2, 2, 1}, {1, 1, 1}, {1, 1, 1}}},
		{"c4", impl.Module{M: 8, Units: []int64{1, 1, 1, 1}}, 2, [][]int64{{2, 4, 1}, {2, 2, 2}, {1, 4, 1}}},
		{"c4", impl.Module{M: 8, Units: []int64{1, 1, 1, 1}}, 4, [][]int64{{4, 2, 1}, {4, 1, 2}, {2, 2, 1}}},
	}
	for _, c := range cases {
		s := newSequence(c.name, named(t, c.name), c.a, c.k)
		for n, wants := range c.orders {
			if got := s.imageOrders(t, int64(n)); !slices.Equal(got, wants) {
				t.Errorf("ImageOrders(%s, %d) = %v, not %v", s.name, n, got, wants)
			}
		}
	}
}

// imageOf returns the least cocycles of the classes to which a map leads some classes, as keys.
func imageOf(t *testing.T, g impl.Group, to impl.Module, classes []impl.Cochain, lead func(f impl.Cochain) impl.Cochain) map[string]bool {
	t.Helper()
	image := map[string]bool{}
	for _, f := range classes {
		image[valuesKey(leastCocycle(t, g, to, lead(f)).Values)] = true
	}
	return image
}

// imagesOfClasses returns the images of the three maps from the degree n, made by hand of lists of classes.
func (s sequenceByHand) imagesOfClasses(t *testing.T, n int64) []map[string]bool {
	t.Helper()
	return []map[string]bool{
		imageOf(t, s.g, s.whole, classList(t, s.g, s.inner, n), s.embed),
		imageOf(t, s.g, s.outer, classList(t, s.g, s.whole, n), s.reduce),
		imageOf(t, s.g, s.inner, classList(t, s.g, s.outer, n), func(f impl.Cochain) impl.Cochain { return s.connect(t, f) }),
	}
}

// TestImageOrdersOfClasses counts the classes to which the classes of each module are led.
func TestImageOrdersOfClasses(t *testing.T) {
	eachSomeSequence(t, func(s sequenceByHand) {
		for n := range int64(3) {
			if !s.hasOrders(n) {
				continue
			}
			orders := s.imageOrders(t, n)
			for i, image := range s.imagesOfClasses(t, n) {
				if orders[i] != int64(len(image)) {
					t.Errorf("ImageOrders(%s, %d) = %v, but the image %d has %d classes", s.name, n, orders, i, len(image))
				}
			}
		}
	})
}

// areFew reports whether there are few enough cochains of some degree to look at all of them.
func areFew(g impl.Group, a impl.Module, n int64) bool {
	count := int64(1)
	for range cellsByHand(g, n) {
		count = min(count*a.M, 10000)
	}
	return count <= 2200
}

// imageByHand counts the classes to which a map leads cocycles, by looking at all cocycles.
func imageByHand(from, to handCohomology, lead func(f impl.Cochain) impl.Cochain) int64 {
	image := map[string]bool{}
	for _, f := range from.cocycles {
		image[valuesKey(to.least[valuesKey(lead(f).Values)].Values)] = true
	}
	return int64(len(image))
}

// TestImageOrdersByHand looks at all cocycles of all degrees that have few enough of them.
func TestImageOrdersByHand(t *testing.T) {
	seen := 0
	eachSomeSequence(t, func(s sequenceByHand) {
		for n := range int64(3) {
			if !s.hasOrders(n) || !areFew(s.g, s.whole, n) || !areFew(s.g, s.inner, n+1) {
				continue
			}
			seen++
			inner, whole, outer := cohomologyByHand(s.g, s.inner, n), cohomologyByHand(s.g, s.whole, n), cohomologyByHand(s.g, s.outer, n)
			wants := []int64{
				imageByHand(inner, whole, s.embed),
				imageByHand(whole, outer, s.reduce),
				imageByHand(outer, cohomologyByHand(s.g, s.inner, n+1), func(f impl.Cochain) impl.Cochain { return s.connect(t, f) }),
			}
			if got := s.imageOrders(t, n); !slices.Equal(got, wants) {
				t.Errorf("ImageOrders(%s, %d) = %v, not %v", s.name, n, got, wants)
			}
		}
	})
	if seen < 100 {
		t.Errorf("only %d sequences are looked at", seen)
	}
}

// TestPromise8Numbers: at each of the three places the number of classes is the product of the numbers of
// classes of the image that comes in, and of the image that goes out. Into the inner module with the degree 0
// nothing comes in but one class.
func TestPromise8Numbers(t *testing.T) {
	eachSequence(t, func(s sequenceByHand) {
		in := int64(1)
		for n := range int64(3) {
			if !s.hasOrders(n) {
				return
			}
			orders := s.imageOrders(t, n)
			places := []struct {
				a       impl.Module
				in, out int64
			}{{s.inner, in, orders[0]}, {s.whole, orders[0], orders[1]}, {s.outer, orders[1], orders[2]}}
			for _, place := range places {
				if order := orderOfCohomology(t, s.g, place.a, n); order != place.in*place.out {
					t.Errorf("%s, %d: there are %d classes of %v, but images with %d and %d", s.name, n, order, place.a, place.in, place.out)
				}
			}
			in = orders[2]
		}
	})
}

// checkExact reports the classes of a module that are in the image that comes in, and not led to the class of
// 0, or the other way round.
func checkExact(t *testing.T, what string, classes []impl.Cochain, image map[string]bool, goesToZero func(f impl.Cochain) bool) {
	t.Helper()
	for _, f := range classes {
		if image[valuesKey(f.Values)] != goesToZero(f) {
			t.Errorf("%s: the class of %v comes in: %t, goes to 0: %t", what, f, image[valuesKey(f.Values)], goesToZero(f))
		}
	}
}

// TestPromise14: a class of a cochain of the whole module comes from the inner module just if it goes to the
// class of 0 in the outer one.
func TestPromise14(t *testing.T) {
	eachSomeSequence(t, func(s sequenceByHand) {
		for n := range int64(4) {
			if !s.hasClasses(n) {
				continue
			}
			embed := func(f impl.Cochain) impl.Cochain { return s.embedded(t, f) }
			image := imageOf(t, s.g, s.whole, classList(t, s.g, s.inner, n), embed)
			checkExact(t, s.name, classList(t, s.g, s.whole, n), image, func(f impl.Cochain) bool {
				return isBounding(t, s.g, s.outer, s.reduced(t, f))
			})
		}
	})
}

// TestOtherPlaces: a class of the outer module comes from the whole one just if its connecting cochain is
// bounding, and a class of the inner module is one of a connecting cochain just if it is embedded as a
// bounding one.
func TestOtherPlaces(t *testing.T) {
	eachSomeSequence(t, func(s sequenceByHand) {
		for n := range int64(3) {
			if !s.hasOrders(n) {
				continue
			}
			reduce := func(f impl.Cochain) impl.Cochain { return s.reduced(t, f) }
			connect := func(f impl.Cochain) impl.Cochain { return s.connecting(t, f) }
			outer := classList(t, s.g, s.outer, n)
			checkExact(t, s.name, outer, imageOf(t, s.g, s.outer, classList(t, s.g, s.whole, n), reduce), func(f impl.Cochain) bool {
				return isBounding(t, s.g, s.inner, s.connecting(t, f))
			})
			checkExact(t, s.name, classList(t, s.g, s.inner, n+1), imageOf(t, s.g, s.inner, outer, connect), func(f impl.Cochain) bool {
				return isBounding(t, s.g, s.whole, s.embedded(t, f))
			})
		}
	})
}

// TestPromise14OfBounding: cocycles that differ from embedded ones by a boundary go to the class of 0, too,
// also where classes cannot be listed.
func TestPromise14OfBounding(t *testing.T) {
	eachSomeSequence(t, func(s sequenceByHand) {
		for n := int64(1); n < 4; n++ {
			if n == 3 && !hasAllDegrees(s.g, s.whole) {
				continue
			}
			h := sampleCochain(s.g, s.whole, n-1, s.k)
			for _, f := range someCocycles(t, s.g, s.inner, n) {
				whole := added(t, s.g, s.whole, s.embedded(t, f), boundaryOf(t, s.g, s.whole, h), 1)
				want := boundaryOf(t, s.g, s.outer, s.reduced(t, h))
				if got := s.reduced(t, whole); !equalCochains(got, want) {
					t.Errorf("%s: %v is reduced to %v, not to the boundary %v", s.name, whole, got, want)
				}
			}
		}
	})
}

// TestImagesOfRenumbered: renumbered groups with renumbered modules have the same orders.
func TestImagesOfRenumbered(t *testing.T) {
	for _, name := range allNames {
		g := named(t, name)
		h := turned(t, g)
		for _, a := range slices.Concat(modulesOf(t, g, 8), modulesOf(t, g, 12)) {
			b := impl.Module{M: a.M, Units: slices.Clone(a.Units)}
			slices.Reverse(b.Units[1:])
			for _, k := range divisorsByHand(a.M) {
				first, second := newSequence(name, g, a, k), newSequence(name, h, b, k)
				for n := range int64(3) {
					if !first.hasOrders(n) {
						continue
					}
					if x, y := first.imageOrders(t, n), second.imageOrders(t, n); !slices.Equal(x, y) {
						t.Errorf("ImageOrders(%s, %d) = %v, and renumbered %v", first.name, n, x, y)
					}
				}
			}
		}
	}
}
