package tests

import (
	"fmt"
	"math"
	"slices"
	"testing"

	"loop.example/g01363/impl"
)

func TestMaxCells(t *testing.T) {
	if impl.MaxCells != 343 {
		t.Errorf("MaxCells is %d", impl.MaxCells)
	}
}

func TestCountCells(t *testing.T) {
	wanted := map[int][]int64{
		1: {1, 0, 0, 0}, 2: {1, 1, 1, 1}, 3: {1, 2, 4, 8}, 4: {1, 3, 9, 27},
		5: {1, 4, 16, 64}, 6: {1, 5, 25, 125}, 7: {1, 6, 36, 216}, 8: {1, 7, 49, 343},
	}
	for name, g := range sampleGroups(t) {
		for n, want := range wanted[len(g.Table)] {
			if count, code := impl.CountCells(g, int64(n)); count != want || code != impl.ErrNone {
				t.Errorf("CountCells(%s, %d) = %d, %d", name, n, count, code)
			}
		}
		for _, n := range badDegrees() {
			if !failed(all(impl.CountCells(g, n)), impl.ErrRange) {
				t.Errorf("CountCells(%s, %d) is out of range", name, n)
			}
		}
	}
}

// TestIsCochainByHand looks at all short lists of Values in -1..M, for all degrees around the limits.
func TestIsCochainByHand(t *testing.T) {
	for _, name := range []string{"c1", "c2", "c3"} {
		g := named(t, name)
		for m := int64(2); m <= 3; m++ {
			for _, a := range modulesOf(t, g, m) {
				for length := range int64(6) {
					for _, values := range lists(length, m+2) {
						for i := range values {
							values[i]--
						}
						for n := int64(-1); n <= 4; n++ {
							want := n >= 0 && n <= 3 && len(values) == len(cellsByHand(g, max(n, 0)))
							for _, x := range values {
								want = want && x >= 0 && x < m
							}
							f := impl.Cochain{Degree: n, Values: values}
							if yes, code := impl.IsCochain(g, a, f); yes != want || code != impl.ErrNone {
								t.Fatalf("IsCochain(%s, %v, %v) = %v, %d", name, a, f, yes, code)
							}
						}
					}
				}
			}
		}
	}
}

func TestIsCochain(t *testing.T) {
	eachCochain(t, 3, func(name string, g impl.Group, a impl.Module, f impl.Cochain) {
		if yes, code := impl.IsCochain(g, a, f); !yes || code != impl.ErrNone {
			t.Errorf("IsCochain(%s, %v, %v) = %v, %d", name, a, f, yes, code)
		}
		for n := range int64(4) {
			other := impl.Cochain{Degree: n, Values: f.Values}
			want := len(f.Values) == len(cellsByHand(g, n))
			if yes, code := impl.IsCochain(g, a, other); yes != want || code != impl.ErrNone {
				t.Errorf("IsCochain(%s, %v, %v) = %v, %d", name, a, other, yes, code)
			}
		}
	})
	c3, a := named(t, "c3"), impl.Module{M: 4, Units: []int64{1, 1, 1}}
	for name, f := range notCochains() {
		if yes, code := impl.IsCochain(c3, a, f); yes || code != impl.ErrNone {
			t.Errorf("IsCochain with %s = %v, %d", name, yes, code)
		}
	}
}

func TestZeroCochain(t *testing.T) {
	for name, g := range sampleGroups(t) {
		for _, a := range modulesOf(t, g, 12) {
			for n := range int64(4) {
				want := impl.Cochain{Degree: n, Values: make([]int64, len(cellsByHand(g, n)))}
				if f, code := impl.ZeroCochain(g, a, n); !equalCochains(f, want) || code != impl.ErrNone {
					t.Errorf("ZeroCochain(%s, %v, %d) = %v, %d", name, a, n, f, code)
				}
			}
			for _, n := range badDegrees() {
				if !failed(all(impl.ZeroCochain(g, a, n)), impl.ErrRange) {
					t.Errorf("ZeroCochain(%s, %v, %d) is out of range", name, a, n)
				}
			}
		}
	}
}

// TestListOf: there are all lists without 0, in lexicographic order, and no more.
func TestListOf(t *testing.T) {
	for name, g := range sampleGroups(t) {
		for n := range int64(4) {
			cells := cellsByHand(g, n)
			for i, want := range cells {
				if list, code := impl.ListOf(g, n, int64(i)); !slices.Equal(list, want) || code != impl.ErrNone {
					t.Errorf("ListOf(%s, %d, %d) = %v, %d", name, n, i, list, code)
				}
			}
			for _, i := range badNumbers(int64(len(cells))) {
				if !failed(all(impl.ListOf(g, n, i)), impl.ErrRange) {
					t.Errorf("ListOf(%s, %d, %d) is out of range", name, n, i)
				}
			}
		}
		for _, n := range badDegrees() {
			for _, i := range []int64{0, 1, -1, math.MaxInt64, math.MinInt64} {
				if !failed(all(impl.ListOf(g, n, i)), impl.ErrRange) {
					t.Errorf("ListOf(%s, %d, %d) is out of range", name, n, i)
				}
			}
		}
	}
	if list, code := impl.ListOf(named(t, "cube"), 3, 342); !slices.Equal(list, []int64{7, 7, 7}) || code != impl.ErrNone {
		t.Errorf("ListOf(cube, 3, 342) = %v, %d", list, code)
	}
	if list, code := impl.ListOf(named(t, "c4"), 3, 5); !slices.Equal(list, []int64{1, 2, 3}) || code != impl.ErrNone {
		t.Errorf("ListOf(c4, 3, 5) = %v, %d", list, code)
	}
}

// TestValueOf asks for the values at all lists, also those with 0.
func TestValueOf(t *testing.T) {
	for name, g := range sampleGroups(t) {
		for n := range int64(4) {
			for _, a := range modulesOf(t, g, 7) {
				f := sampleCochain(g, a, n, 3)
				values := valuesByHand(g, f)
				for _, list := range lists(n, int64(len(g.Table))) {
					want := values[keyByHand(list)]
					if slices.Contains(list, 0) && want != 0 {
						t.Fatalf("%v has the value %d by hand", list, want)
					}
					if x, code := impl.ValueOf(g, a, f, list); x != want || code != impl.ErrNone {
						t.Errorf("ValueOf(%s, %v, %v, %v) = %d, %d", name, a, f, list, x, code)
					}
				}
			}
		}
	}
}

func TestValueOfRange(t *testing.T) {
	c4, a := named(t, "c4"), impl.Module{M: 5, Units: []int64{1, 2, 4, 3}}
	for n := range int64(4) {
		f := sampleCochain(c4, a, n, 1)
		for length := range int64(6) {
			if length != n && !failed(all(impl.ValueOf(c4, a, f, make([]int64, length))), impl.ErrRange) {
				t.Errorf("ValueOf of the degree %d at %d elements", n, length)
			}
			if length != n && !failed(all(impl.ValueOf(c4, a, f, slices.Repeat([]int64{3}, int(length)))), impl.ErrRange) {
				t.Errorf("ValueOf of the degree %d at %d elements", n, length)
			}
		}
		if !failed(all(impl.ValueOf(c4, a, f, make([]int64, 100000))), impl.ErrRange) {
			t.Errorf("ValueOf of the degree %d at a long list", n)
		}
		for place := range n {
			for _, bad := range badNumbers(4) {
				for other := range int64(4) {
					list := slices.Repeat([]int64{other}, int(n))
					list[place] = bad
					if !failed(all(impl.ValueOf(c4, a, f, list)), impl.ErrRange) {
						t.Errorf("ValueOf(%v, %v) is out of range", f, list)
					}
				}
			}
		}
	}
	if x, code := impl.ValueOf(c4, a, impl.Cochain{Values: []int64{3}}, nil); x != 3 || code != impl.ErrNone {
		t.Errorf("ValueOf at the empty list = %d, %d", x, code)
	}
}

// TestAddCochains adds multiples value by value.
func TestAddCochains(t *testing.T) {
	eachCochain(t, 3, func(name string, g impl.Group, a impl.Module, f impl.Cochain) {
		h := sampleCochain(g, a, f.Degree, 77)
		for _, k := range []int64{0, 1, -1, 2, -7, 12, 999, 1000, -1000} {
			want := impl.Cochain{Degree: f.Degree}
			for i, x := range f.Values {
				want.Values = append(want.Values, restByHand(x+k*h.Values[i], a.M))
			}
			if sum := added(t, g, a, f, h, k); !equalCochains(sum, want) {
				t.Fatalf("AddCochains(%s, %v, %v, %v, %d) = %v", name, a, f, h, k, sum)
			}
		}
	})
}

// TestPromise3Sums: boundaries of sums are sums of boundaries.
func TestPromise3Sums(t *testing.T) {
	eachCochain(t, 2, func(name string, g impl.Group, a impl.Module, f impl.Cochain) {
		h := sampleCochain(g, a, f.Degree, 78)
		for _, k := range []int64{1, -1, 5, -1000} {
			sum := added(t, g, a, f, h, k)
			want := added(t, g, a, boundaryOf(t, g, a, f), boundaryOf(t, g, a, h), k)
			if got := boundaryOf(t, g, a, sum); !equalCochains(got, want) {
				t.Errorf("%s, %v: the boundary of %v is %v", name, a, sum, got)
			}
		}
	})
}

func TestAddCochainsRange(t *testing.T) {
	c3, a := named(t, "c3"), impl.Module{M: 7, Units: []int64{1, 2, 4}}
	for n := range int64(4) {
		f := sampleCochain(c3, a, n, 1)
		for _, k := range []int64{1001, -1001, 1002, 1000000, math.MinInt64, math.MinInt64 + 1, math.MaxInt64} {
			if !failed(all(impl.AddCochains(c3, a, f, f, k)), impl.ErrRange) {
				t.Errorf("AddCochains(%v, %d) is out of range", f, k)
			}
		}
		for p := range int64(4) {
			h := sampleCochain(c3, a, p, 2)
			if p != n && !failed(all(impl.AddCochains(c3, a, f, h, 1)), impl.ErrRange) {
				t.Errorf("AddCochains(%v, %v) of different degrees", f, h)
			}
		}
	}
	// The Degrees are different, but not the numbers of Values.
	c2, b := named(t, "c2"), impl.Module{M: 4, Units: []int64{1, 3}}
	if !failed(all(impl.AddCochains(c2, b, impl.Cochain{Degree: 1, Values: []int64{1}}, impl.Cochain{Degree: 2, Values: []int64{1}}, 0)), impl.ErrRange) {
		t.Error("AddCochains of the degrees 1 and 2")
	}
	c1, trivial := named(t, "c1"), impl.Module{M: 2, Units: []int64{1}}
	if !failed(all(impl.AddCochains(c1, trivial, impl.Cochain{Degree: 2}, impl.Cochain{Degree: 3}, 0)), impl.ErrRange) {
		t.Error("AddCochains of the degrees 2 and 3")
	}
}

// TestBoundaryOf makes boundaries by hand.
func TestBoundaryOf(t *testing.T) {
	eachCochain(t, 2, func(name string, g impl.Group, a impl.Module, f impl.Cochain) {
		if boundary, want := boundaryOf(t, g, a, f), boundaryByHand(g, a, f); !equalCochains(boundary, want) {
			t.Errorf("BoundaryOf(%s, %v, %v) = %v, not %v", name, a, f, boundary, want)
		}
	})
	for name, g := range sampleGroups(t) {
		a := modulesOf(t, g, 3)[0]
		if !failed(all(impl.BoundaryOf(g, a, sampleCochain(g, a, 3, 1))), impl.ErrRange) {
			t.Errorf("BoundaryOf(%s) of the degree 3", name)
		}
	}
}

func TestBoundaryOfExamples(t *testing.T) {
	rows := []struct {
		name string
		a    impl.Module
		f    impl.Cochain
		want []int64
	}{
		{"c4", impl.Module{M: 5, Units: []int64{1, 2, 4, 3}}, impl.Cochain{Values: []int64{1}}, []int64{1, 3, 2}},
		{"c4", impl.Module{M: 5, Units: []int64{1, 1, 1, 1}}, impl.Cochain{Values: []int64{1}}, []int64{0, 0, 0}},
		{"c4", impl.Module{M: 4, Units: []int64{1, 1, 1, 1}}, impl.Cochain{Degree: 1, Values: []int64{1, 2, 3}}, make([]int64, 9)},
		{"c4", impl.Module{M: 12, Units: []int64{1, 1, 1, 1}}, impl.Cochain{Degree: 1, Values: []int64{1, 2, 3}}, []int64{0, 0, 4, 0, 4, 4, 4, 4, 4}},
		{"c3", impl.Module{M: 7, Units: []int64{1, 2, 4}}, impl.Cochain{Degree: 1, Values: []int64{1, 0}}, []int64{3, 1, 4, 6}},
		{"c3", impl.Module{M: 7, Units: []int64{1, 2, 4}}, impl.Cochain{Degree: 2, Values: []int64{1, 0, 0, 0}}, []int64{1, 6, 0, 1, 4, 0, 6, 0}},
		{"c1", impl.Module{M: 2, Units: []int64{1}}, impl.Cochain{Values: []int64{1}}, nil},
		{"c1", impl.Module{M: 2, Units: []int64{1}}, impl.Cochain{Degree: 2}, nil},
		{"s3", impl.Module{M: 7, Units: []int64{1, 1, 1, 6, 6, 6}}, impl.Cochain{Degree: 1, Values: []int64{1, 0, 0, 0, 0}}, []int64{
			2, 1, 1, 1, 1,
			1, 6, 0, 0, 0,
			6, 0, 0, 6, 0,
			6, 0, 0, 0, 6,
			6, 0, 6, 0, 0,
		}},
	}
	for _, r := range rows {
		want := impl.Cochain{Degree: r.f.Degree + 1, Values: r.want}
		if got := boundaryOf(t, named(t, r.name), r.a, r.f); !equalCochains(got, want) {
			t.Errorf("BoundaryOf(%s, %v, %v) = %v, not %v", r.name, r.a, r.f, got, want)
		}
	}
}

// TestBoundariesOfTwo: c2 has but one list of each degree, whose products are 0. At it the boundary
// has the value times the unit, with the value less for even degrees, and more for odd ones.
func TestBoundariesOfTwo(t *testing.T) {
	c2 := named(t, "c2")
	for m := int64(2); m <= 12; m++ {
		for _, a := range modulesOf(t, c2, m) {
			for n := range int64(4) {
				sign := int64(-1)
				if n%2 == 1 {
					sign = 1
				}
				for x := range m {
					f := impl.Cochain{Degree: n, Values: []int64{x}}
					want := restByHand(a.Units[1]*x+sign*x, m)
					if isCocycle(t, c2, a, f) != (want == 0) {
						t.Errorf("IsCocycle(c2, %v, %v) is wrong", a, f)
					}
					if n == 3 {
						continue
					}
					if got := boundaryOf(t, c2, a, f); !equalCochains(got, impl.Cochain{Degree: n + 1, Values: []int64{want}}) {
						t.Errorf("BoundaryOf(c2, %v, %v) = %v", a, f, got)
					}
				}
			}
		}
	}
}

// TestPromise3Cocycles: boundaries are cocycles, and boundaries of boundaries 0.
func TestPromise3Cocycles(t *testing.T) {
	eachCochain(t, 2, func(name string, g impl.Group, a impl.Module, f impl.Cochain) {
		boundary := boundaryOf(t, g, a, f)
		if !isCocycle(t, g, a, boundary) {
			t.Errorf("%s, %v: the boundary of %v is no cocycle", name, a, f)
		}
		if f.Degree < 2 && !isZeroCochain(boundaryOf(t, g, a, boundary)) {
			t.Errorf("%s, %v: the boundary of the boundary of %v is not 0", name, a, f)
		}
	})
}

// TestIsCocycle looks at cochains of all degrees, those of the degree 3 among them, and at cocycles
// with one value changed.
func TestIsCocycle(t *testing.T) {
	eachCochain(t, 3, func(name string, g impl.Group, a impl.Module, f impl.Cochain) {
		if got, want := isCocycle(t, g, a, f), isZeroCochain(boundaryByHand(g, a, f)); got != want {
			t.Errorf("IsCocycle(%s, %v, %v) = %v", name, a, f, got)
		}
		if f.Degree == 0 || len(f.Values) == 0 {
			return
		}
		changed := boundaryByHand(g, a, sampleCochain(g, a, f.Degree-1, 5))
		i := mixed(a.M, int64(len(changed.Values)))
		changed.Values[i] = (changed.Values[i] + 1) % a.M
		if got, want := isCocycle(t, g, a, changed), isZeroCochain(boundaryByHand(g, a, changed)); got != want {
			t.Errorf("IsCocycle(%s, %v, %v) = %v", name, a, changed, got)
		}
	})
}

// TestIsCocycleOfFixedNumbers: the cocycles of the degree 0 are the fixed numbers, and all cochains
// of c1 are cocycles.
func TestIsCocycleOfFixedNumbers(t *testing.T) {
	eachModule(t, func(name string, g impl.Group, a impl.Module) {
		fixed, _ := impl.FixedNumbers(g, a)
		for x := range a.M {
			f := impl.Cochain{Values: []int64{x}}
			if isCocycle(t, g, a, f) != slices.Contains(fixed, x) {
				t.Errorf("IsCocycle(%s, %v, %v) is wrong", name, a, f)
			}
		}
		for n := range int64(4) {
			if f := sampleCochain(g, a, n, 1); len(g.Table) == 1 && !isCocycle(t, g, a, f) {
				t.Errorf("IsCocycle(%s, %v, %v) is wrong", name, a, f)
			}
		}
	})
}

// TestIsCocycleOfHomomorphisms: the cocycles of the degree 1 in trivial modules are the homomorphisms
// to the numbers modulo M.
func TestIsCocycleOfHomomorphisms(t *testing.T) {
	for _, name := range []string{"c1", "c2", "c3", "c4", "klein", "c5"} {
		g := named(t, name)
		for m := int64(2); m <= 5; m++ {
			a, _ := impl.TrivialModule(g, m)
			cyclic := named(t, fmt.Sprintf("c%d", m))
			for _, f := range allCochains(g, a, 1) {
				want, _ := impl.IsHomomorphism(g, cyclic, append([]int64{0}, f.Values...))
				if isCocycle(t, g, a, f) != want {
					t.Errorf("IsCocycle(%s, %v, %v) is not %v", name, a, f, want)
				}
			}
		}
	}
}

// TestCountOfCocycles counts the cocycles among all cochains. The numbers are those of the cohomology
// groups that are known, times those of the boundaries.
func TestCountOfCocycles(t *testing.T) {
	rows := []struct {
		name string
		a    impl.Module
		want [4]int // 0 where there are too many cochains
	}{
		{"c1", impl.Module{M: 3, Units: []int64{1}}, [4]int{3, 1, 1, 1}},
		{"c2", impl.Module{M: 4, Units: []int64{1, 1}}, [4]int{4, 2, 4, 2}},
		{"c2", impl.Module{M: 4, Units: []int64{1, 3}}, [4]int{2, 4, 2, 4}},
		{"c3", impl.Module{M: 2, Units: []int64{1, 1, 1}}, [4]int{2, 1, 4, 4}},
		{"c3", impl.Module{M: 3, Units: []int64{1, 1, 1}}, [4]int{3, 3, 9, 27}},
		{"c3", impl.Module{M: 7, Units: []int64{1, 2, 4}}, [4]int{1, 7, 7, 0}},
		{"c4", impl.Module{M: 2, Units: []int64{1, 1, 1, 1}}, [4]int{2, 2, 8, 0}},
		{"klein", impl.Module{M: 2, Units: []int64{1, 1, 1, 1}}, [4]int{2, 4, 16, 0}},
		{"klein", impl.Module{M: 3, Units: []int64{1, 1, 2, 2}}, [4]int{1, 3, 9, 0}},
		{"s3", impl.Module{M: 3, Units: []int64{1, 1, 1, 2, 2, 2}}, [4]int{1, 9, 0, 0}},
		{"s3", impl.Module{M: 3, Units: []int64{1, 1, 1, 1, 1, 1}}, [4]int{3, 1, 0, 0}},
	}
	for _, r := range rows {
		g := named(t, r.name)
		for n, want := range r.want {
			if want == 0 {
				continue
			}
			count := 0
			for _, f := range allCochains(g, r.a, int64(n)) {
				if isCocycle(t, g, r.a, f) {
					count++
				}
			}
			if count != want {
				t.Errorf("%s, %v has %d cocycles of the degree %d, not %d", r.name, r.a, count, n, want)
			}
		}
	}
}
