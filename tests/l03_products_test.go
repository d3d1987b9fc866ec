package tests

import (
	"math"
	"slices"
	"testing"

	"loop.example/g01363/impl"
)

// eachPair calls a function for two modules with the same M, and a cochain of each of these, for all
// degrees that are at most a greatest one together.
func eachPair(t *testing.T, greatest int64, call func(name string, g impl.Group, a, b impl.Module, f, h impl.Cochain)) {
	t.Helper()
	for name, g := range sampleGroups(t) {
		for _, m := range []int64{2, 5, 7, 8, 12} {
			modules := modulesOf(t, g, m)
			a, b := modules[len(modules)/2], modules[len(modules)-1]
			for p := range greatest + 1 {
				for q := range greatest + 1 - p {
					call(name, g, a, b, sampleCochain(g, a, p, m), sampleCochain(g, b, q, m+20))
				}
			}
		}
	}
}

// TestProductOfCochains makes products by hand.
func TestProductOfCochains(t *testing.T) {
	eachPair(t, 3, func(name string, g impl.Group, a, b impl.Module, f, h impl.Cochain) {
		first, second := valuesByHand(g, f), valuesByHand(g, h)
		want := cochainByHand(g, a.M, f.Degree+h.Degree, func(list []int64) int64 {
			unit := int64(1)
			for _, x := range list[:f.Degree] {
				unit = unit * b.Units[x] % b.M
			}
			return first[keyByHand(list[:f.Degree])] * unit * second[keyByHand(list[f.Degree:])]
		})
		if product := productOf(t, g, a, b, f, h); !equalCochains(product, want) {
			t.Errorf("ProductOfCochains(%s, %v, %v, %v, %v) = %v", name, a, b, f, h, product)
		}
	})
}

// TestPromise3Products: the boundary of a product is the product of the boundary of the first one and
// the second one, and, with the sign of the degree of the first one, that of the first one and the
// boundary of the second one.
func TestPromise3Products(t *testing.T) {
	eachPair(t, 2, func(name string, g impl.Group, a, b impl.Module, f, h impl.Cochain) {
		c, code := impl.ProductModule(g, a, b)
		if code != impl.ErrNone {
			t.Fatalf("ProductModule(%s, %v, %v): code %d", name, a, b, code)
		}
		sign := int64(1)
		if f.Degree%2 == 1 {
			sign = -1
		}
		left := productOf(t, g, a, b, boundaryOf(t, g, a, f), h)
		right := productOf(t, g, a, b, f, boundaryOf(t, g, b, h))
		want := added(t, g, c, left, right, sign)
		if got := boundaryOf(t, g, c, productOf(t, g, a, b, f, h)); !equalCochains(got, want) {
			t.Errorf("%s, %v, %v: the boundary of the product of %v and %v is %v, not %v", name, a, b, f, h, got, want)
		}
	})
}

// TestProductsOfCocycles: products of cocycles are cocycles, also those of the degree 3.
func TestProductsOfCocycles(t *testing.T) {
	eachPair(t, 1, func(name string, g impl.Group, a, b impl.Module, f, h impl.Cochain) {
		c, _ := impl.ProductModule(g, a, b)
		product := productOf(t, g, a, b, boundaryOf(t, g, a, f), boundaryOf(t, g, b, h))
		if !isCocycle(t, g, c, product) {
			t.Errorf("%s, %v, %v: %v is no cocycle", name, a, b, product)
		}
	})
}

// TestProductsWithoutBrackets: products of three cochains do not depend on brackets, and the cochain
// of the degree 0 with the value 1, in the trivial module, changes nothing.
func TestProductsWithoutBrackets(t *testing.T) {
	eachPair(t, 2, func(name string, g impl.Group, a, b impl.Module, f, h impl.Cochain) {
		ab, _ := impl.ProductModule(g, a, b)
		ba, _ := impl.ProductModule(g, b, a)
		k := sampleCochain(g, a, 1, 31)
		left := productOf(t, g, ab, a, productOf(t, g, a, b, f, h), k)
		right := productOf(t, g, a, ba, f, productOf(t, g, b, a, h, k))
		if !equalCochains(left, right) {
			t.Errorf("%s, %v, %v: %v and %v", name, a, b, left, right)
		}
		trivial, _ := impl.TrivialModule(g, a.M)
		one := impl.Cochain{Values: []int64{1}}
		if !equalCochains(productOf(t, g, trivial, a, one, f), f) || !equalCochains(productOf(t, g, a, trivial, f, one), f) {
			t.Errorf("%s, %v: 1 changes %v", name, a, f)
		}
	})
}

func TestProductOfCochainsExamples(t *testing.T) {
	five := impl.Module{M: 5, Units: []int64{1, 2, 4, 3}}
	plain := impl.Module{M: 5, Units: []int64{1, 1, 1, 1}}
	f, h := impl.Cochain{Degree: 1, Values: []int64{1, 0, 2}}, impl.Cochain{Degree: 1, Values: []int64{0, 1, 3}}
	rows := []struct {
		name string
		a, b impl.Module
		f, h impl.Cochain
		want impl.Cochain
	}{
		{"c4", plain, plain, f, h, impl.Cochain{Degree: 2, Values: []int64{0, 1, 3, 0, 0, 0, 0, 2, 1}}},
		{"c4", plain, five, f, h, impl.Cochain{Degree: 2, Values: []int64{0, 2, 1, 0, 0, 0, 0, 1, 3}}},
		{"c4", five, plain, f, h, impl.Cochain{Degree: 2, Values: []int64{0, 1, 3, 0, 0, 0, 0, 2, 1}}},
		{"c4", plain, five, f, impl.Cochain{Values: []int64{3}}, impl.Cochain{Degree: 1, Values: []int64{1, 0, 3}}},
		{"c4", plain, five, impl.Cochain{Values: []int64{3}}, h, impl.Cochain{Degree: 1, Values: []int64{0, 3, 4}}},
		{"c4", plain, five, impl.Cochain{Values: []int64{3}}, impl.Cochain{Values: []int64{4}}, impl.Cochain{Values: []int64{2}}},
		{"c1", impl.Module{M: 4, Units: []int64{1}}, impl.Module{M: 4, Units: []int64{1}}, impl.Cochain{Degree: 1}, impl.Cochain{Degree: 2}, impl.Cochain{Degree: 3}},
		{"c1", impl.Module{M: 4, Units: []int64{1}}, impl.Module{M: 4, Units: []int64{1}}, impl.Cochain{Values: []int64{3}}, impl.Cochain{Degree: 3}, impl.Cochain{Degree: 3}},
	}
	for _, r := range rows {
		if got := productOf(t, named(t, r.name), r.a, r.b, r.f, r.h); !equalCochains(got, r.want) {
			t.Errorf("ProductOfCochains(%s, %v, %v, %v, %v) = %v", r.name, r.a, r.b, r.f, r.h, got)
		}
	}
}

func TestProductOfCochainsRange(t *testing.T) {
	for _, name := range []string{"c1", "c2", "c3", "klein"} {
		g := named(t, name)
		a, b := modulesOf(t, g, 4)[0], modulesOf(t, g, 8)[0]
		for p := range int64(4) {
			for q := range int64(4) {
				f, h := sampleCochain(g, a, p, 1), sampleCochain(g, a, q, 2)
				if code := productCode(g, a, a, f, h); (code == impl.ErrNone) != (p+q <= 3) || code != impl.ErrNone && code != impl.ErrRange {
					t.Errorf("ProductOfCochains(%s) of the degrees %d and %d: code %d", name, p, q, code)
				}
				if !failed(all(impl.ProductOfCochains(g, a, b, f, h)), impl.ErrRange) || !failed(all(impl.ProductOfCochains(g, b, a, f, h)), impl.ErrRange) {
					t.Errorf("ProductOfCochains(%s) of M 4 and 8", name)
				}
			}
		}
	}
}

// productCode returns the code of ProductOfCochains, and -1 if there is something beside an error.
func productCode(g impl.Group, a, b impl.Module, f, h impl.Cochain) int64 {
	product, code := impl.ProductOfCochains(g, a, b, f, h)
	if code != impl.ErrNone && !failed(all(product, code), code) {
		return -1
	}
	return code
}

// imagesOf returns the images of the elements of a list.
func imagesOf(images, list []int64) []int64 {
	var mapped []int64
	for _, x := range list {
		mapped = append(mapped, images[x])
	}
	return mapped
}

// TestPromise3PullBack pulls back along all homomorphisms among small groups: values are those at the
// images, and boundaries become the boundaries.
func TestPromise3PullBack(t *testing.T) {
	for first, g := range smallGroups(t) {
		for second, h := range smallGroups(t) {
			homomorphisms, _ := impl.HomomorphismsOf(g, h)
			for _, a := range slices.Concat(modulesOf(t, h, 4), modulesOf(t, h, 7)) {
				for n := range int64(4) {
					f := sampleCochain(h, a, n, 9)
					values := valuesByHand(h, f)
					for _, images := range homomorphisms {
						want := cochainByHand(g, a.M, n, func(list []int64) int64 {
							return values[keyByHand(imagesOf(images, list))]
						})
						b, k, code := impl.PullBack(g, h, a, images, f)
						if !equalModules(b, impl.Module{M: a.M, Units: imagesOf(a.Units, images)}) || !equalCochains(k, want) || code != impl.ErrNone {
							t.Fatalf("PullBack(%s, %s, %v, %v, %v) = %v, %v, %d", first, second, a, images, f, b, k, code)
						}
						if n == 3 {
							continue
						}
						_, boundary, code := impl.PullBack(g, h, a, images, boundaryOf(t, h, a, f))
						if !equalCochains(boundary, boundaryOf(t, g, b, k)) || code != impl.ErrNone {
							t.Fatalf("%s, %s, %v, %v: the boundary of %v is pulled back to %v", first, second, a, images, f, boundary)
						}
					}
				}
			}
		}
	}
}

// TestPullBackOfGreatGroups pulls back along all homomorphisms of the groups of eight elements to a
// group of two, and to themselves.
func TestPullBackOfGreatGroups(t *testing.T) {
	c2, a := named(t, "c2"), impl.Module{M: 4, Units: []int64{1, 3}}
	for _, name := range []string{"c8", "c2c4", "cube", "dihedral", "quaternion"} {
		g := named(t, name)
		homomorphisms, _ := impl.HomomorphismsOf(g, c2)
		for _, images := range homomorphisms {
			b, f, code := impl.PullBack(g, c2, a, images, impl.Cochain{Degree: 1, Values: []int64{1}})
			if !equalCochains(f, impl.Cochain{Degree: 1, Values: images[1:]}) || !isCocycle(t, g, b, f) || code != impl.ErrNone {
				t.Errorf("PullBack(%s, c2, %v) = %v, %v, %d", name, images, b, f, code)
			}
		}
		identity := []int64{0, 1, 2, 3, 4, 5, 6, 7}
		own := modulesOf(t, g, 8)[1]
		f := sampleCochain(g, own, 3, 4)
		if b, h, code := impl.PullBack(g, g, own, identity, f); !equalModules(b, own) || !equalCochains(f, h) || code != impl.ErrNone {
			t.Errorf("PullBack(%s) along the identity = %v, %v, %d", name, b, h, code)
		}
	}
}

func TestPullBackErrors(t *testing.T) {
	c2, c4 := named(t, "c2"), named(t, "c4")
	a := impl.Module{M: 5, Units: []int64{1, 2, 4, 3}}
	f := sampleCochain(c4, a, 2, 1)
	if b, h, code := impl.PullBack(c2, c4, a, []int64{0, 2}, f); !equalModules(b, impl.Module{M: 5, Units: []int64{1, 4}}) || !equalCochains(h, impl.Cochain{Degree: 2, Values: f.Values[4:5]}) || code != impl.ErrNone {
		t.Errorf("PullBack(0 2) = %v, %v, %d", b, h, code)
	}
	for _, images := range [][]int64{nil, {}, {0}, {0, 2, 0}, {0, 2, 0, 2}, {1, 1, 1}, {0, 4}, {1, 4}, {0, -1}, {-1, 0}, {0, math.MinInt64}, {math.MaxInt64, 0}, make([]int64, 1000)} {
		if !failed(all(impl.PullBack(c2, c4, a, images, f)), impl.ErrRange) {
			t.Errorf("PullBack(%v) is out of range", images)
		}
	}
	for _, images := range lists(2, 4) {
		isOne := images[0] == 0 && images[1]%2 == 0
		if !isOne && !failed(all(impl.PullBack(c2, c4, a, images, f)), impl.ErrState) {
			t.Errorf("PullBack(%v) has no homomorphism", images)
		}
	}
	// The module has to be one of h, and the cochain one of h.
	if !failed(all(impl.PullBack(c2, c4, impl.Module{M: 5, Units: []int64{1, 4}}, []int64{0, 2}, f)), impl.ErrInvalid) {
		t.Error("PullBack with a module of g")
	}
	if !failed(all(impl.PullBack(c2, c4, a, []int64{0, 2}, impl.Cochain{Degree: 2, Values: []int64{1}})), impl.ErrInvalid) {
		t.Error("PullBack with a cochain of g")
	}
}

// movedByHand returns f moved by c.
func movedByHand(g impl.Group, a impl.Module, f impl.Cochain, c int64) impl.Cochain {
	values, back := valuesByHand(g, f), byHand(g, c)
	return cochainByHand(g, a.M, f.Degree, func(list []int64) int64 {
		var inner []int64
		for _, x := range list {
			inner = append(inner, g.Table[g.Table[back][x]][c])
		}
		return a.Units[c] * values[keyByHand(inner)]
	})
}

// TestPromise3MoveCochain: cochains are moved as by hand, and boundaries to boundaries.
func TestPromise3MoveCochain(t *testing.T) {
	for name, g := range sampleGroups(t) {
		for _, m := range []int64{3, 8} {
			modules := modulesOf(t, g, m)
			a := modules[len(modules)-1]
			for n := range int64(4) {
				f := sampleCochain(g, a, n, m)
				for c := range int64(len(g.Table)) {
					h := moved(t, g, a, f, c)
					if !equalCochains(h, movedByHand(g, a, f, c)) {
						t.Fatalf("MoveCochain(%s, %v, %v, %d) = %v", name, a, f, c, h)
					}
					if n < 3 && !equalCochains(boundaryOf(t, g, a, h), moved(t, g, a, boundaryOf(t, g, a, f), c)) {
						t.Errorf("%s, %v: the boundary of %v is moved by %d otherwise", name, a, f, c)
					}
				}
			}
		}
	}
}

// TestMoveCochainTwice: elements move cochains one behind the other as their products do.
func TestMoveCochainTwice(t *testing.T) {
	for _, name := range []string{"c1", "c2", "s3", "dihedral", "quaternion"} {
		g := named(t, name)
		for _, a := range modulesOf(t, g, 7) {
			for n := range int64(3) {
				f := sampleCochain(g, a, n, 6)
				if !equalCochains(moved(t, g, a, f, 0), f) {
					t.Errorf("%s, %v: the identity moves %v", name, a, f)
				}
				for c := range int64(len(g.Table)) {
					for d := range int64(len(g.Table)) {
						if twice := moved(t, g, a, moved(t, g, a, f, c), d); !equalCochains(twice, moved(t, g, a, f, g.Table[d][c])) {
							t.Errorf("%s, %v: %d and %d move %v to %v", name, a, c, d, f, twice)
						}
					}
				}
			}
		}
	}
}

func TestMoveCochainExamples(t *testing.T) {
	s3, a := named(t, "s3"), impl.Module{M: 7, Units: []int64{1, 1, 1, 6, 6, 6}}
	f := impl.Cochain{Degree: 1, Values: []int64{1, 2, 3, 4, 5}}
	wanted := [][]int64{{1, 2, 3, 4, 5}, {1, 2, 5, 3, 4}, {1, 2, 4, 5, 3}, {5, 6, 4, 2, 3}, {5, 6, 2, 3, 4}, {5, 6, 3, 4, 2}}
	for c, want := range wanted {
		if h := moved(t, s3, a, f, int64(c)); !equalCochains(h, impl.Cochain{Degree: 1, Values: want}) {
			t.Errorf("MoveCochain(s3, %v, %v, %d) = %v, not %v", a, f, c, h, want)
		}
	}
	if h := moved(t, s3, a, impl.Cochain{Values: []int64{3}}, 4); !equalCochains(h, impl.Cochain{Values: []int64{4}}) {
		t.Errorf("MoveCochain of the degree 0 = %v", h)
	}
	for _, bad := range badNumbers(6) {
		if !failed(all(impl.MoveCochain(s3, a, f, bad)), impl.ErrRange) {
			t.Errorf("MoveCochain by %d is out of range", bad)
		}
	}
}
