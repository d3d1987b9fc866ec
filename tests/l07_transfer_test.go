package tests

import (
	"slices"
	"testing"

	"loop.example/g01363/impl"
)

// TestTransferredCochains: transfers of the degrees 0 and 1, also of cochains that are no cocycles, are sums
// over all representatives.
func TestTransferredCochains(t *testing.T) {
	eachPart(t, func(name string, g impl.Group, a impl.Module, h []int64) {
		part, b := groupOfSubgroup(t, g, h), moduleOfSubgroup(t, g, a, h)
		for n := range int64(2) {
			for seed := range int64(3) {
				f := sampleCochain(part, b, n, seed+a.M)
				if k := transferred(t, g, a, h, f); !equalCochains(k, transferByHand(g, a, h, f)) {
					t.Fatalf("TransferCochain(%s, %v) = %v", name, f, k)
				}
			}
		}
	})
}

// TestPromise7Transferred: transferred cocycles are cocycles, and boundaries become the boundaries.
func TestPromise7Transferred(t *testing.T) {
	eachPart(t, func(name string, g impl.Group, a impl.Module, h []int64) {
		part, b := groupOfSubgroup(t, g, h), moduleOfSubgroup(t, g, a, h)
		for n := range int64(2) {
			for _, f := range someCocycles(t, part, b, n) {
				if k := transferred(t, g, a, h, f); !isCocycleByHand(g, a, k) || !isCocycle(t, g, a, k) {
					t.Fatalf("TransferCochain(%s, %v) = %v is no cocycle", name, f, k)
				}
			}
		}
		f := sampleCochain(part, b, 0, a.M)
		boundary := boundaryOf(t, g, a, transferred(t, g, a, h, f))
		if got := transferred(t, g, a, h, boundaryOf(t, part, b, f)); !areCohomologous(t, g, a, got, boundary) {
			t.Errorf("%s: the boundary of %v becomes %v", name, f, got)
		}
	})
}

// TestTransferExamples: known transfers.
func TestTransferExamples(t *testing.T) {
	for _, example := range []struct {
		name, module  string
		h             []int64
		cochain, want string
	}{
		{"c1", "5:1", []int64{0}, "0:4", "0:4"},
		{"c1", "5:1", []int64{0}, "1:", "1:"},
		{"c4", "4:1,3,1,3", []int64{0, 2}, "0:3", "0:0"},
		{"c4", "4:1,1,1,1", []int64{0, 2}, "0:3", "0:2"},
		{"c4", "5:1,2,4,3", []int64{0, 2}, "0:3", "0:4"},
		{"c4", "5:1,2,4,3", []int64{0}, "0:3", "0:0"},
		{"c4", "4:1,3,1,3", []int64{0, 2}, "1:2", "1:2,0,2"},
		{"c4", "5:1,2,4,3", []int64{0, 2}, "1:3", "1:3,4,1"},
		{"c4", "5:1,2,4,3", []int64{0}, "1:", "1:0,0,0"},
		{"c4", "5:1,2,4,3", []int64{0, 1, 2, 3}, "1:1,3,2", "1:1,3,2"},
		{"s3", "7:1,1,1,6,6,6", []int64{0, 1, 2}, "0:5", "0:0"},
		{"s3", "7:1,1,1,6,6,6", []int64{0, 3}, "0:5", "0:1"},
		{"s3", "3:1,1,1,2,2,2", []int64{0, 1, 2}, "1:1,2", "1:2,1,0,1,2"},
		{"s3", "2:1,1,1,1,1,1", []int64{0, 4}, "1:1", "1:0,0,1,1,1"},
	} {
		g := named(t, example.name)
		a := wanted[impl.Module](t, "ParseModule")(impl.ParseModule(g, example.module))
		part, b := groupOfSubgroup(t, g, example.h), moduleOfSubgroup(t, g, a, example.h)
		f := wanted[impl.Cochain](t, "ParseCochain")(impl.ParseCochain(part, b, example.cochain))
		if text := textByHand(transferred(t, g, a, example.h, f)); text != example.want {
			t.Errorf("TransferCochain(%s, %s, %v, %s) = %s, not %s", example.name, example.module, example.h, example.cochain, text, example.want)
		}
	}
}

// sumAt returns the sum of the values of a cochain of the degree 1 at some elements.
func sumAt(g impl.Group, f impl.Cochain, elements []int64) int64 {
	values, sum := valuesByHand(g, f), int64(0)
	for _, x := range elements {
		sum += values[keyByHand([]int64{x})]
	}
	return sum
}

// TestPromise16: a cocycle of the degree 1 that is restricted and transferred differs from its multiple by
// the index by the boundary of the cochain of the degree 0 whose value is the sum of those at the
// representatives; one of the degree 0 does not differ.
func TestPromise16(t *testing.T) {
	for name, g := range sampleGroups(t) {
		for _, a := range firstAndLast(t, g, []int64{2, 3, 4, 5, 6, 7, 8, 9, 10, 11, 12}) {
			fixed, cocycles := someCocycles(t, g, a, 0), someCocycles(t, g, a, 1)
			zero := impl.Cochain{Degree: 1, Values: make([]int64, len(g.Table)-1)}
			for _, h := range subgroupsByHand(g) {
				index := indexOf(t, g, h)
				for _, f := range fixed {
					k := transferred(t, g, a, h, restricted(t, g, a, h, f))
					if k.Values[0] != restByHand(index*f.Values[0], a.M) {
						t.Errorf("%s, %v, %v: %v becomes %v", name, a, h, f, k)
					}
				}
				for _, f := range cocycles {
					k := transferred(t, g, a, h, restricted(t, g, a, h, f))
					difference := added(t, g, a, k, f, -index)
					sum := impl.Cochain{Values: []int64{restByHand(sumAt(g, f, representativesByHand(g, h)), a.M)}}
					if !equalCochains(difference, boundaryByHand(g, a, sum)) || !isBounding(t, g, a, difference) {
						t.Fatalf("%s, %v, %v: %v becomes %v", name, a, h, f, k)
					}
					if !areCohomologous(t, g, a, k, added(t, g, a, zero, f, index)) {
						t.Errorf("%s, %v, %v: %v becomes %v, of another class", name, a, h, f, k)
					}
				}
			}
		}
	}
}

// TestPromise16Crossed: all crossed maps of chapter 5, which are the cocycles of the degree 1, differ so.
func TestPromise16Crossed(t *testing.T) {
	for _, name := range []string{"c1", "c2", "c4", "klein", "s3", "dihedral", "quaternion"} {
		g := named(t, name)
		for _, a := range firstAndLast(t, g, []int64{2, 3, 4, 12}) {
			for _, list := range crossedMaps(t, g, a) {
				f := impl.Cochain{Degree: 1, Values: list[1:]}
				for _, h := range subgroupsByHand(g) {
					k := transferred(t, g, a, h, restricted(t, g, a, h, f))
					if difference := added(t, g, a, k, f, -indexOf(t, g, h)); !isBounding(t, g, a, difference) {
						t.Fatalf("%s, %v, %v: %v becomes %v", name, a, h, f, k)
					}
				}
			}
		}
	}
}

// transferElementByHand returns the product of all b, from the first representative on.
func transferElementByHand(g impl.Group, h []int64, x int64) int64 {
	representatives := representativesByHand(g, h)
	product := int64(0)
	for _, t := range representatives {
		_, b := splitByHand(g, h, representatives, g.Table[x][t])
		product = g.Table[product][b]
	}
	return product
}

// isAbelianByHand reports whether elements of a subgroup have the same products in both orders.
func isAbelianByHand(g impl.Group, h []int64) bool {
	for _, a := range h {
		for _, b := range h {
			if g.Table[a][b] != g.Table[b][a] {
				return false
			}
		}
	}
	return true
}

// TestTransferredElements: the transfer of an element is the product of all b, an element of the subgroup,
// and to transfer is a homomorphism to its group; where that one has a b other than b a, it is ErrState.
func TestTransferredElements(t *testing.T) {
	none := 0
	eachSubgroup(t, func(name string, g impl.Group, h []int64) {
		if !isAbelianByHand(g, h) {
			none++
			for x := range int64(len(g.Table)) {
				if results := all(impl.TransferElement(g, h, x)); !failed(results, impl.ErrState) {
					t.Errorf("TransferElement(%s, %d): %v", name, x, results)
				}
			}
			return
		}
		var images []int64
		for x := range int64(len(g.Table)) {
			product := transferElement(t, g, h, x)
			if product != transferElementByHand(g, h, x) || !slices.Contains(h, product) {
				t.Fatalf("TransferElement(%s, %d) = %d", name, x, product)
			}
			images = append(images, inverseNumber(h, product))
		}
		if !isHomomorphismByHand(g, partByHand(g, h), images) {
			t.Errorf("TransferElement(%s): %v are no homomorphism", name, images)
		}
	})
	// The wholes of s3, dihedral and quaternion, and of these renumbered.
	if none != 6 {
		t.Errorf("%d subgroups have a b other than b a", none)
	}
}

// TestTransferIsPower: where all elements have a b as b a, to transfer takes the power by the index.
func TestTransferIsPower(t *testing.T) {
	eachSubgroup(t, func(name string, g impl.Group, h []int64) {
		if abelian, _ := impl.IsAbelian(g); !abelian {
			return
		}
		for x := range int64(len(g.Table)) {
			power := wanted[int64](t, "PowerOf")(impl.PowerOf(g, x, indexOf(t, g, h)))
			if got := transferElement(t, g, h, x); got != power {
				t.Errorf("TransferElement(%s, %d) = %d, not %d", name, x, got, power)
			}
		}
	})
}

// TestTransferOfCochainsAndElements: in a trivial module the transfer of a cocycle of the degree 1 has at x
// its value at the transfer of x.
func TestTransferOfCochainsAndElements(t *testing.T) {
	eachSubgroup(t, func(name string, g impl.Group, h []int64) {
		if !isAbelianByHand(g, h) {
			return
		}
		for _, m := range []int64{2, 6, 8, 12} {
			a := modulesOf(t, g, m)[0]
			part, b := groupOfSubgroup(t, g, h), moduleOfSubgroup(t, g, a, h)
			for _, list := range crossedMaps(t, part, b) {
				k := transferred(t, g, a, h, impl.Cochain{Degree: 1, Values: list[1:]})
				for x := int64(1); x < int64(len(g.Table)); x++ {
					if want := list[inverseNumber(h, transferElement(t, g, h, x))]; k.Values[x-1] != want {
						t.Fatalf("TransferCochain(%s, %v, %v) = %v: not %d at %d", name, a, list, k, want, x)
					}
				}
			}
		}
	})
}

func TestTransferElementExamples(t *testing.T) {
	for _, example := range []struct {
		name    string
		h, want []int64
	}{
		{"c1", []int64{0}, []int64{0}},
		{"c4", []int64{0, 2}, []int64{0, 2, 0, 2}},
		{"c4", []int64{0, 1, 2, 3}, []int64{0, 1, 2, 3}},
		{"c4", []int64{0}, []int64{0, 0, 0, 0}},
		{"s3", []int64{0, 1, 2}, []int64{0, 0, 0, 0, 0, 0}},
		{"s3", []int64{0, 4}, []int64{0, 0, 0, 4, 4, 4}},
		{"klein", []int64{0, 3}, []int64{0, 0, 0, 0}},
		{"dihedral", []int64{0, 1, 2, 3}, []int64{0, 0, 0, 0, 0, 0, 0, 0}},
		{"dihedral", []int64{0, 2, 4, 6}, []int64{0, 2, 0, 2, 2, 0, 2, 0}},
		{"quaternion", []int64{0, 1, 2, 3}, []int64{0, 0, 0, 0, 2, 2, 2, 2}},
	} {
		g := named(t, example.name)
		for x, want := range example.want {
			if got := transferElement(t, g, example.h, int64(x)); got != want {
				t.Errorf("TransferElement(%s, %v, %d) = %d, not %d", example.name, example.h, x, got, want)
			}
		}
	}
}
