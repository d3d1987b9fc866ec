package tests

import (
	"fmt"
	"math"
	"slices"
	"strconv"
	"strings"
	"testing"

	"loop.example/g01363/impl"
)

func TestMaxModulus(t *testing.T) {
	if impl.MaxModulus != 12 {
		t.Errorf("MaxModulus is %d", impl.MaxModulus)
	}
}

// TestIsModuleByHand looks at all lists of units in -1..m for groups of at most three elements, and
// in 0..m for those of four, also for M around its limits. ModulesOf has just those that are
// modules, in order.
func TestIsModuleByHand(t *testing.T) {
	for _, name := range []string{"c1", "c2", "c3", "c4", "klein"} {
		g := named(t, name)
		n := int64(len(g.Table))
		for m := int64(0); m <= 13; m++ {
			var want []impl.Module
			least := int64(-1)
			if n == 4 {
				least = 0
			}
			for _, units := range lists(n, m+1-least) {
				for i := range units {
					units[i] += least
				}
				a := impl.Module{M: m, Units: units}
				yes, code := impl.IsModule(g, a)
				if yes != isModuleByHand(g, a) || code != impl.ErrNone {
					t.Fatalf("IsModule(%s, %v) = %v, %d", name, a, yes, code)
				}
				if yes {
					want = append(want, a)
				}
			}
			if got, _ := impl.ModulesOf(g, m); !slices.EqualFunc(got, want, equalModules) {
				t.Errorf("ModulesOf(%s, %d) = %v, not %v", name, m, got, want)
			}
		}
	}
}

func TestIsModule(t *testing.T) {
	c4 := named(t, "c4")
	for name, a := range notModules() {
		if yes, code := impl.IsModule(c4, a); yes || code != impl.ErrNone {
			t.Errorf("IsModule with %s = %v, %d", name, yes, code)
		}
	}
	for _, a := range []impl.Module{{M: 5, Units: []int64{1, 2, 4, 3}}, {M: 2, Units: []int64{1, 1, 1, 1}}, {M: 12, Units: []int64{1, 11, 1, 11}}} {
		if yes, code := impl.IsModule(c4, a); !yes || code != impl.ErrNone {
			t.Errorf("IsModule(c4, %v) = %v, %d", a, yes, code)
		}
	}
	for name, g := range notGroups() {
		for _, a := range []impl.Module{{}, {M: 2, Units: []int64{1, 1}}, {M: 2, Units: slices.Repeat([]int64{1}, len(g.Table))}} {
			if !failed(all(impl.IsModule(g, a)), impl.ErrInvalid) {
				t.Errorf("IsModule of %s", name)
			}
		}
	}
}

// TestIsModuleWithOneChange changes single units of modules of all groups.
func TestIsModuleWithOneChange(t *testing.T) {
	eachModule(t, func(name string, g impl.Group, a impl.Module) {
		for x := range a.Units {
			for u := int64(0); u <= a.M; u++ {
				b := impl.Module{M: a.M, Units: slices.Clone(a.Units)}
				b.Units[x] = u
				if yes, code := impl.IsModule(g, b); yes != isModuleByHand(g, b) || code != impl.ErrNone {
					t.Fatalf("IsModule(%s, %v) = %v, %d", name, b, yes, code)
				}
			}
		}
	})
}

// moduleCalls calls all functions of the chapter that ask for a module, beside numbers and lists
// that are out of range: ErrInvalid is asked first.
func moduleCalls(t *testing.T, g impl.Group, a impl.Module) map[string][]any {
	t.Helper()
	c2 := named(t, "c2")
	good, _ := impl.TrivialModule(g, 3)
	return map[string][]any{
		"LeadNumber":            all(impl.LeadNumber(g, a, -1, -1)),
		"FixedNumbers":          all(impl.FixedNumbers(g, a)),
		"DifferenceNumbers":     all(impl.DifferenceNumbers(g, a)),
		"NormOf":                all(impl.NormOf(g, a)),
		"KernelOf":              all(impl.KernelOf(g, a)),
		"DualModule":            all(impl.DualModule(g, a)),
		"ProductModule, first":  all(impl.ProductModule(g, a, good)),
		"ProductModule, second": all(impl.ProductModule(g, good, a)),
		"ReduceModule":          all(impl.ReduceModule(g, a, 0)),
		"RestrictModule":        all(impl.RestrictModule(c2, g, []int64{0, 1, -1}, a)),
		"RestrictModule, state": all(impl.RestrictModule(c2, g, []int64{1, 1}, a)),
		"MapsOfModules, first":  all(impl.MapsOfModules(g, a, good)),
		"MapsOfModules, second": all(impl.MapsOfModules(g, good, a)),
		"ModuleText":            all(impl.ModuleText(g, a)),
	}
}

// TestInvalidModules asks each function for what is no group, or no module of it.
func TestInvalidModules(t *testing.T) {
	for name, a := range notModules() {
		for call, results := range moduleCalls(t, named(t, "c4"), a) {
			if !failed(results, impl.ErrInvalid) {
				t.Errorf("%s with %s: %v", call, name, results)
			}
		}
	}
	for name, g := range notGroups() {
		a := impl.Module{M: 2, Units: slices.Repeat([]int64{1}, len(g.Table))}
		calls := moduleCalls(t, g, a)
		calls["TrivialModule"] = all(impl.TrivialModule(g, 2))
		calls["TrivialModule, M"] = all(impl.TrivialModule(g, 0))
		calls["ModulesOf"] = all(impl.ModulesOf(g, 2))
		calls["ModulesOf, M"] = all(impl.ModulesOf(g, 13))
		calls["RestrictModule, h"] = all(impl.RestrictModule(g, named(t, "c2"), nil, impl.Module{M: 2, Units: []int64{1, 1}}))
		calls["ParseModule"] = all(impl.ParseModule(g, "2:1,1"))
		calls["ParseModule, no text"] = all(impl.ParseModule(g, ""))
		for call, results := range calls {
			if !failed(results, impl.ErrInvalid) {
				t.Errorf("%s of %s: %v", call, name, results)
			}
		}
	}
}

func TestTrivialModule(t *testing.T) {
	for name, g := range sampleGroups(t) {
		for m := int64(2); m <= 12; m++ {
			a, code := impl.TrivialModule(g, m)
			if !equalModules(a, impl.Module{M: m, Units: slices.Repeat([]int64{1}, len(g.Table))}) || code != impl.ErrNone {
				t.Errorf("TrivialModule(%s, %d) = %v, %d", name, m, a, code)
			}
		}
		for _, m := range badModuli() {
			if !failed(all(impl.TrivialModule(g, m)), impl.ErrRange) {
				t.Errorf("TrivialModule(%s, %d) is out of range", name, m)
			}
		}
	}
}

// TestModulesOf: all modules are there, once each, in order, and the trivial one is the first.
func TestModulesOf(t *testing.T) {
	for name, g := range sampleGroups(t) {
		plain := strings.TrimSuffix(name, " turned")
		for m := int64(2); m <= 12; m++ {
			modules := modulesOf(t, g, m)
			if len(modules) != countModulesByHand(plain, m) {
				t.Errorf("ModulesOf(%s, %d) has %d", name, m, len(modules))
			}
			if trivial, _ := impl.TrivialModule(g, m); !equalModules(modules[0], trivial) {
				t.Errorf("ModulesOf(%s, %d) begins with %v", name, m, modules[0])
			}
			for i, a := range modules {
				if a.M != m || !isModuleByHand(g, a) {
					t.Errorf("ModulesOf(%s, %d) has %v", name, m, a)
				}
				if i > 0 && slices.Compare(modules[i-1].Units, a.Units) >= 0 {
					t.Errorf("ModulesOf(%s, %d) has %v behind %v", name, m, a, modules[i-1])
				}
			}
		}
		for _, m := range badModuli() {
			if !failed(all(impl.ModulesOf(g, m)), impl.ErrRange) {
				t.Errorf("ModulesOf(%s, %d) is out of range", name, m)
			}
		}
	}
}

func TestModulesOfExamples(t *testing.T) {
	wanted := map[string]string{
		"c1 2":    "[{2 [1]}]",
		"c1 12":   "[{12 [1]}]",
		"c2 4":    "[{4 [1 1]} {4 [1 3]}]",
		"c2 12":   "[{12 [1 1]} {12 [1 5]} {12 [1 7]} {12 [1 11]}]",
		"c3 7":    "[{7 [1 1 1]} {7 [1 2 4]} {7 [1 4 2]}]",
		"c4 5":    "[{5 [1 1 1 1]} {5 [1 2 4 3]} {5 [1 3 4 2]} {5 [1 4 1 4]}]",
		"klein 3": "[{3 [1 1 1 1]} {3 [1 1 2 2]} {3 [1 2 1 2]} {3 [1 2 2 1]}]",
		"s3 7":    "[{7 [1 1 1 1 1 1]} {7 [1 1 1 6 6 6]}]",
		"cube 2":  "[{2 [1 1 1 1 1 1 1 1]}]",
		"c2c4 2":  "[{2 [1 1 1 1 1 1 1 1]}]",
		"c5 11":   "[{11 [1 1 1 1 1]} {11 [1 3 9 5 4]} {11 [1 4 5 9 3]} {11 [1 5 3 4 9]} {11 [1 9 4 3 5]}]",
		"c7 12":   "[{12 [1 1 1 1 1 1 1]}]",
		"c3 10":   "[{10 [1 1 1]}]",
		"klein 6": "[{6 [1 1 1 1]} {6 [1 1 5 5]} {6 [1 5 1 5]} {6 [1 5 5 1]}]",
		"c8 9":    "[{9 [1 1 1 1 1 1 1 1]} {9 [1 8 1 8 1 8 1 8]}]",
		"c6 9":    "[{9 [1 1 1 1 1 1]} {9 [1 2 4 8 7 5]} {9 [1 4 7 1 4 7]} {9 [1 5 7 8 4 2]} {9 [1 7 4 1 7 4]} {9 [1 8 1 8 1 8]}]",
	}
	for call, want := range wanted {
		name, number, _ := strings.Cut(call, " ")
		m, _ := strconv.ParseInt(number, 10, 64)
		if got := fmt.Sprint(modulesOf(t, named(t, name), m)); got != want {
			t.Errorf("ModulesOf(%s) = %s", call, got)
		}
	}
}

// leadsOf returns the number to which each element leads each number.
func leadsOf(t *testing.T, g impl.Group, a impl.Module) [][]int64 {
	t.Helper()
	leads := make([][]int64, len(g.Table))
	for element := range leads {
		for x := range a.M {
			y, code := impl.LeadNumber(g, a, int64(element), x)
			if y != a.Units[element]*x%a.M || code != impl.ErrNone {
				t.Fatalf("LeadNumber(%v, %v, %d, %d) = %d, %d", g, a, element, x, y, code)
			}
			leads[element] = append(leads[element], y)
		}
	}
	return leads
}

// TestPromise2LeadNumber: elements lead numbers one behind the other as their products do.
func TestPromise2LeadNumber(t *testing.T) {
	eachModule(t, func(name string, g impl.Group, a impl.Module) {
		leads := leadsOf(t, g, a)
		for x := range a.M {
			if leads[0][x] != x {
				t.Errorf("%s, %v: the identity leads %d to %d", name, a, x, leads[0][x])
			}
			for first := range leads {
				for second := range leads {
					if leads[first][leads[second][x]] != leads[g.Table[first][second]][x] {
						t.Errorf("%s, %v: %d and %d lead %d otherwise than their product", name, a, first, second, x)
					}
				}
			}
		}
	})
}

func TestLeadNumberRange(t *testing.T) {
	c4, a := named(t, "c4"), impl.Module{M: 5, Units: []int64{1, 2, 4, 3}}
	for _, bad := range badNumbers(4) {
		if !failed(all(impl.LeadNumber(c4, a, bad, 1)), impl.ErrRange) {
			t.Errorf("LeadNumber of the element %d is out of range", bad)
		}
	}
	for _, bad := range badNumbers(5) {
		if !failed(all(impl.LeadNumber(c4, a, 1, bad)), impl.ErrRange) {
			t.Errorf("LeadNumber of the number %d is out of range", bad)
		}
	}
	if x, code := impl.LeadNumber(c4, a, 3, 4); x != 2 || code != impl.ErrNone {
		t.Errorf("LeadNumber(3, 4) = %d, %d", x, code)
	}
}

// fixedByHand returns all numbers that all elements lead to themselves.
func fixedByHand(a impl.Module) []int64 {
	var fixed []int64
	for x := range a.M {
		moved := slices.ContainsFunc(a.Units, func(u int64) bool { return u*x%a.M != x })
		if !moved {
			fixed = append(fixed, x)
		}
	}
	return fixed
}

// differencesByHand returns the rests of all sums of numbers u x - x: more and more of them, until
// no sum is new.
func differencesByHand(a impl.Module) []int64 {
	var steps []int64
	for _, u := range a.Units {
		for x := range a.M {
			steps = append(steps, u*x-x)
		}
	}
	seen := map[int64]bool{0: true}
	found := []int64{0}
	for i := 0; i < len(found); i++ {
		for _, step := range steps {
			if y := (found[i] + step) % a.M; !seen[y] {
				seen[y] = true
				found = append(found, y)
			}
		}
	}
	return slices.Sorted(slices.Values(found))
}

// areMultiples reports whether a list has just the multiples, from 0 on, of a divisor of m.
func areMultiples(list []int64, m int64) bool {
	d := m
	if len(list) > 1 {
		d = list[1]
	}
	for i, x := range list {
		if x != int64(i)*d {
			return false
		}
	}
	return divides(d, m) && int64(len(list))*d == m
}

// TestPromise2Multiples: fixed numbers and differences are multiples of divisors of M.
func TestPromise2Multiples(t *testing.T) {
	eachModule(t, func(name string, g impl.Group, a impl.Module) {
		fixed, code := impl.FixedNumbers(g, a)
		if !slices.Equal(fixed, fixedByHand(a)) || !areMultiples(fixed, a.M) || code != impl.ErrNone {
			t.Errorf("FixedNumbers(%s, %v) = %v, %d", name, a, fixed, code)
		}
		differences, code := impl.DifferenceNumbers(g, a)
		if !slices.Equal(differences, differencesByHand(a)) || !areMultiples(differences, a.M) || code != impl.ErrNone {
			t.Errorf("DifferenceNumbers(%s, %v) = %v, %d", name, a, differences, code)
		}
		if int64(len(fixed)*len(differences)) != a.M {
			t.Errorf("%s, %v: %v and %v", name, a, fixed, differences)
		}
	})
}

func TestFixedNumbersAndDifferences(t *testing.T) {
	rows := []struct {
		name               string
		a                  impl.Module
		fixed, differences []int64
	}{
		{"c1", impl.Module{M: 2, Units: []int64{1}}, []int64{0, 1}, []int64{0}},
		{"c2", impl.Module{M: 4, Units: []int64{1, 1}}, []int64{0, 1, 2, 3}, []int64{0}},
		{"c2", impl.Module{M: 12, Units: []int64{1, 7}}, []int64{0, 2, 4, 6, 8, 10}, []int64{0, 6}},
		{"c2", impl.Module{M: 12, Units: []int64{1, 5}}, []int64{0, 3, 6, 9}, []int64{0, 4, 8}},
		{"c2", impl.Module{M: 12, Units: []int64{1, 11}}, []int64{0, 6}, []int64{0, 2, 4, 6, 8, 10}},
		{"klein", impl.Module{M: 12, Units: []int64{1, 5, 7, 11}}, []int64{0, 6}, []int64{0, 2, 4, 6, 8, 10}},
		{"klein", impl.Module{M: 8, Units: []int64{1, 5, 1, 5}}, []int64{0, 2, 4, 6}, []int64{0, 4}},
		{"c4", impl.Module{M: 5, Units: []int64{1, 2, 4, 3}}, []int64{0}, []int64{0, 1, 2, 3, 4}},
	}
	for _, r := range rows {
		if l, code := impl.FixedNumbers(named(t, r.name), r.a); !slices.Equal(l, r.fixed) || code != impl.ErrNone {
			t.Errorf("FixedNumbers(%s, %v) = %v, %d", r.name, r.a, l, code)
		}
		if l, code := impl.DifferenceNumbers(named(t, r.name), r.a); !slices.Equal(l, r.differences) || code != impl.ErrNone {
			t.Errorf("DifferenceNumbers(%s, %v) = %v, %d", r.name, r.a, l, code)
		}
	}
}

func TestNormAndKernel(t *testing.T) {
	eachModule(t, func(name string, g impl.Group, a impl.Module) {
		sum, kernel := int64(0), []int64{}
		for x, u := range a.Units {
			sum += u
			if u == 1 {
				kernel = append(kernel, int64(x))
			}
		}
		if norm, code := impl.NormOf(g, a); norm != sum%a.M || code != impl.ErrNone {
			t.Errorf("NormOf(%s, %v) = %d, %d", name, a, norm, code)
		}
		l, code := impl.KernelOf(g, a)
		if !slices.Equal(l, kernel) || code != impl.ErrNone {
			t.Errorf("KernelOf(%s, %v) = %v, %d", name, a, l, code)
		}
		if normal, code := impl.IsNormal(g, l); !normal || code != impl.ErrNone {
			t.Errorf("KernelOf(%s, %v) = %v is not normal", name, a, l)
		}
	})
	c4 := named(t, "c4")
	if norm, code := impl.NormOf(c4, impl.Module{M: 3, Units: []int64{1, 1, 1, 1}}); norm != 1 || code != impl.ErrNone {
		t.Errorf("NormOf = %d, %d", norm, code)
	}
	if norm, code := impl.NormOf(c4, impl.Module{M: 12, Units: []int64{1, 7, 1, 7}}); norm != 4 || code != impl.ErrNone {
		t.Errorf("NormOf = %d, %d", norm, code)
	}
	if l, code := impl.KernelOf(c4, impl.Module{M: 5, Units: []int64{1, 4, 1, 4}}); !slices.Equal(l, []int64{0, 2}) || code != impl.ErrNone {
		t.Errorf("KernelOf = %v, %d", l, code)
	}
}

// TestDualModule: the products of units and their inverses have the rest 1.
func TestDualModule(t *testing.T) {
	eachModule(t, func(name string, g impl.Group, a impl.Module) {
		dual, code := impl.DualModule(g, a)
		if !isModuleByHand(g, dual) || dual.M != a.M || code != impl.ErrNone {
			t.Fatalf("DualModule(%s, %v) = %v, %d", name, a, dual, code)
		}
		for x, u := range a.Units {
			if u*dual.Units[x]%a.M != 1 {
				t.Errorf("DualModule(%s, %v) = %v", name, a, dual)
			}
		}
		if again, _ := impl.DualModule(g, dual); !equalModules(again, a) {
			t.Errorf("the dual of the dual of %v is %v", a, again)
		}
	})
	if dual, code := impl.DualModule(named(t, "c4"), impl.Module{M: 5, Units: []int64{1, 2, 4, 3}}); !equalModules(dual, impl.Module{M: 5, Units: []int64{1, 3, 4, 2}}) || code != impl.ErrNone {
		t.Errorf("DualModule = %v, %d", dual, code)
	}
}

func TestProductModule(t *testing.T) {
	for name, g := range sampleGroups(t) {
		for m := int64(2); m <= 12; m++ {
			modules := modulesOf(t, g, m)
			for _, a := range modules {
				for _, b := range modules {
					want := make([]int64, len(g.Table))
					for x := range want {
						want[x] = a.Units[x] * b.Units[x] % m
					}
					p, code := impl.ProductModule(g, a, b)
					if !equalModules(p, impl.Module{M: m, Units: want}) || code != impl.ErrNone {
						t.Fatalf("ProductModule(%s, %v, %v) = %v, %d", name, a, b, p, code)
					}
				}
				for k := int64(2); k <= 12; k++ {
					b, _ := impl.TrivialModule(g, k)
					if k != m && (!failed(all(impl.ProductModule(g, a, b)), impl.ErrState) || !failed(all(impl.ProductModule(g, b, a)), impl.ErrState)) {
						t.Fatalf("ProductModule(%s, %v, %v)", name, a, b)
					}
				}
			}
		}
	}
}

// TestReduceModule reduces to all numbers around M: those that divide it, from 2 on, and no others.
func TestReduceModule(t *testing.T) {
	eachModule(t, func(name string, g impl.Group, a impl.Module) {
		for k := int64(-13); k <= 25; k++ {
			b, code := impl.ReduceModule(g, a, k)
			if k < 2 || k > a.M || !divides(k, a.M) {
				if !failed(all(b, code), impl.ErrRange) {
					t.Fatalf("ReduceModule(%s, %v, %d) = %v, %d", name, a, k, b, code)
				}
				continue
			}
			want := impl.Module{M: k}
			for _, u := range a.Units {
				want.Units = append(want.Units, u%k)
			}
			if !equalModules(b, want) || !isModuleByHand(g, b) || code != impl.ErrNone {
				t.Fatalf("ReduceModule(%s, %v, %d) = %v, %d", name, a, k, b, code)
			}
		}
		for _, k := range []int64{math.MinInt64, math.MinInt64 + 1, math.MaxInt64} {
			if !failed(all(impl.ReduceModule(g, a, k)), impl.ErrRange) {
				t.Fatalf("ReduceModule(%s, %v, %d) is out of range", name, a, k)
			}
		}
	})
}

func TestReduceModuleExamples(t *testing.T) {
	c2, a := named(t, "c2"), impl.Module{M: 12, Units: []int64{1, 7}}
	wanted := map[int64]int64{2: 1, 3: 1, 4: 3, 6: 1, 12: 7}
	for k, u := range wanted {
		if b, code := impl.ReduceModule(c2, a, k); !equalModules(b, impl.Module{M: k, Units: []int64{1, u}}) || code != impl.ErrNone {
			t.Errorf("ReduceModule(%v, %d) = %v, %d", a, k, b, code)
		}
	}
	for _, k := range []int64{1, 0, -2, 5, 7, 8, 24} {
		if !failed(all(impl.ReduceModule(c2, a, k)), impl.ErrRange) {
			t.Errorf("ReduceModule(%v, %d) is out of range", a, k)
		}
	}
}

// TestRestrictModule restricts modules by all homomorphisms among small groups.
func TestRestrictModule(t *testing.T) {
	for first, h := range smallGroups(t) {
		for second, g := range smallGroups(t) {
			homomorphisms, _ := impl.HomomorphismsOf(h, g)
			for m := int64(2); m <= 12; m++ {
				for _, a := range modulesOf(t, g, m) {
					for _, images := range homomorphisms {
						want := impl.Module{M: m}
						for _, x := range images {
							want.Units = append(want.Units, a.Units[x])
						}
						b, code := impl.RestrictModule(h, g, images, a)
						if !equalModules(b, want) || !isModuleByHand(h, b) || code != impl.ErrNone {
							t.Fatalf("RestrictModule(%s, %s, %v, %v) = %v, %d", first, second, images, a, b, code)
						}
					}
				}
			}
		}
	}
}

func TestRestrictModuleErrors(t *testing.T) {
	c2, c4 := named(t, "c2"), named(t, "c4")
	a := impl.Module{M: 5, Units: []int64{1, 2, 4, 3}}
	if b, code := impl.RestrictModule(c2, c4, []int64{0, 2}, a); !equalModules(b, impl.Module{M: 5, Units: []int64{1, 4}}) || code != impl.ErrNone {
		t.Errorf("RestrictModule(0 2) = %v, %d", b, code)
	}
	if b, code := impl.RestrictModule(c2, c4, []int64{0, 0}, a); !equalModules(b, impl.Module{M: 5, Units: []int64{1, 1}}) || code != impl.ErrNone {
		t.Errorf("RestrictModule(0 0) = %v, %d", b, code)
	}
	for _, images := range [][]int64{nil, {}, {0}, {0, 2, 0}, {0, 2, 0, 2}, {0, 4}, {0, -1}, {-1, 0}, {4, 1}, {0, math.MinInt64}, {math.MaxInt64, 0}, make([]int64, 1000)} {
		if !failed(all(impl.RestrictModule(c2, c4, images, a)), impl.ErrRange) {
			t.Errorf("RestrictModule(%v) is out of range", images)
		}
	}
	for _, images := range lists(2, 4) {
		isOne := images[0] == 0 && images[1]%2 == 0
		if !isOne && !failed(all(impl.RestrictModule(c2, c4, images, a)), impl.ErrState) {
			t.Errorf("RestrictModule(%v) has no homomorphism", images)
		}
	}
	// The module has to be one of g, not of h.
	if !failed(all(impl.RestrictModule(c2, c4, []int64{0, 2}, impl.Module{M: 5, Units: []int64{1, 4}})), impl.ErrInvalid) {
		t.Error("RestrictModule with a module of h")
	}
}

// mapsByHand returns all c such that x and c x are led alike, and all x with the same rest by a.M
// have the same rest of c x by b.M.
func mapsByHand(a, b impl.Module) []int64 {
	var found []int64
	for c := range b.M {
		good := divides(b.M, c*a.M)
		for x := range a.Units {
			for y := range a.M {
				good = good && c*(a.Units[x]*y%a.M)%b.M == b.Units[x]*(c*y%b.M)%b.M
			}
		}
		if good {
			found = append(found, c)
		}
	}
	return found
}

func TestMapsOfModules(t *testing.T) {
	for _, name := range []string{"c1", "c2", "c3", "c4", "klein", "s3", "quaternion"} {
		g := named(t, name)
		var modules []impl.Module
		for m := int64(2); m <= 12; m++ {
			modules = append(modules, modulesOf(t, g, m)...)
		}
		for _, a := range modules {
			for _, b := range modules {
				l, code := impl.MapsOfModules(g, a, b)
				if !slices.Equal(l, mapsByHand(a, b)) || code != impl.ErrNone {
					t.Fatalf("MapsOfModules(%s, %v, %v) = %v, %d", name, a, b, l, code)
				}
				if len(l) == 0 || l[0] != 0 {
					t.Fatalf("MapsOfModules(%s, %v, %v) = %v is without 0", name, a, b, l)
				}
			}
		}
	}
}

func TestMapsOfModulesExamples(t *testing.T) {
	c2 := named(t, "c2")
	rows := []struct {
		a, b impl.Module
		want []int64
	}{
		{impl.Module{M: 4, Units: []int64{1, 3}}, impl.Module{M: 4, Units: []int64{1, 1}}, []int64{0, 2}},
		{impl.Module{M: 4, Units: []int64{1, 1}}, impl.Module{M: 4, Units: []int64{1, 1}}, []int64{0, 1, 2, 3}},
		{impl.Module{M: 2, Units: []int64{1, 1}}, impl.Module{M: 12, Units: []int64{1, 5}}, []int64{0, 6}},
		{impl.Module{M: 12, Units: []int64{1, 5}}, impl.Module{M: 2, Units: []int64{1, 1}}, []int64{0, 1}},
		{impl.Module{M: 5, Units: []int64{1, 4}}, impl.Module{M: 7, Units: []int64{1, 6}}, []int64{0}},
		{impl.Module{M: 3, Units: []int64{1, 1}}, impl.Module{M: 3, Units: []int64{1, 2}}, []int64{0}},
		{impl.Module{M: 3, Units: []int64{1, 2}}, impl.Module{M: 9, Units: []int64{1, 8}}, []int64{0, 3, 6}},
		{impl.Module{M: 3, Units: []int64{1, 1}}, impl.Module{M: 9, Units: []int64{1, 8}}, []int64{0}},
	}
	for _, r := range rows {
		if l, code := impl.MapsOfModules(c2, r.a, r.b); !slices.Equal(l, r.want) || code != impl.ErrNone {
			t.Errorf("MapsOfModules(%v, %v) = %v, %d", r.a, r.b, l, code)
		}
	}
}

// TestPromise2Texts: modules come back from their texts, which are all different.
func TestPromise2Texts(t *testing.T) {
	seen := map[string]bool{}
	eachModule(t, func(name string, g impl.Group, a impl.Module) {
		want := strings.ReplaceAll(strings.Trim(fmt.Sprint(a.Units), "[]"), " ", ",")
		text, code := impl.ModuleText(g, a)
		if text != fmt.Sprint(a.M)+":"+want || code != impl.ErrNone {
			t.Errorf("ModuleText(%s, %v) = %q, %d", name, a, text, code)
		}
		if seen[name+text] {
			t.Errorf("two modules of %s have the text %q", name, text)
		}
		seen[name+text] = true
		if b, code := impl.ParseModule(g, text); !equalModules(a, b) || code != impl.ErrNone {
			t.Errorf("ParseModule(%s, %q) = %v, %d", name, text, b, code)
		}
	})
	if text, code := impl.ModuleText(named(t, "c5"), impl.Module{M: 11, Units: []int64{1, 3, 9, 5, 4}}); text != "11:1,3,9,5,4" || code != impl.ErrNone {
		t.Errorf("ModuleText = %q, %d", text, code)
	}
}

// TestParseModuleWithOneChange leaves out, adds and replaces single characters of texts. What is
// still parsed is a module with just this text.
func TestParseModuleWithOneChange(t *testing.T) {
	for _, name := range []string{"c1", "c2", "c3", "klein", "s3", "quaternion"} {
		g := named(t, name)
		texts := map[string]impl.Module{}
		for m := int64(2); m <= 12; m++ {
			for _, a := range modulesOf(t, g, m) {
				text, _ := impl.ModuleText(g, a)
				texts[text] = a
			}
		}
		for text := range texts {
			for i := range len(text) + 1 {
				for _, c := range []string{"", "0", "1", "3", "9", ",", ":", "-", "+", " ", "\n", "\x00", "\xff", "a", "_", ";"} {
					changed := []string{text[:i] + c + text[i:]}
					if i < len(text) {
						changed = append(changed, text[:i]+c+text[i+1:])
					}
					for _, s := range changed {
						want, found := texts[s]
						a, code := impl.ParseModule(g, s)
						if found && (!equalModules(a, want) || code != impl.ErrNone) || !found && !failed(all(a, code), impl.ErrSyntax) {
							t.Fatalf("ParseModule(%s, %q) = %v, %d", name, s, a, code)
						}
					}
				}
			}
		}
	}
}

func TestParseModuleErrors(t *testing.T) {
	c2 := named(t, "c2")
	bad := []string{
		"", ":", ",", "4", "4:", ":1,3", "4:1", "4:1,", "4:,3", "4:,", "4:1,3,", "4:,1,3", "4:1,,3", "4:1,3,1", "4:1,3,0", "4:1,3,0,0", "4:1,3,0,0,0,0,0,0", "4:1,3,0,0,0,0,0,0,0",
		"4:1:3", "4,1,3", "4:1;3", "4:13", "4::1,3", "4:1,3:", "41,3", " 4:1,3", "4 :1,3", "4: 1,3", "4:1, 3", "4:1,3 ", "4:1,3\n", "4:1,3\x00", "\ufeff4:1,3",
		"04:1,3", "4:01,3", "4:1,03", "4:1,003", "+4:1,3", "-4:1,3", "4:+1,3", "4:1,+3", "4:-1,3", "4:1,-1", "4:1,-3", "4:1,3.0", "4:1,3e0", "0x4:1,3", "4:1,0x3", "1_2:1,5", "\u0664:1,3", "4:1,\u0663",
		"4:0,0", "4:1,0", "4:0,1", "4:1,2", "4:2,2", "4:1,4", "4:1,5", "4:1,7", "4:3,3", "4:3,1", "4:5,3", "6:3,3", "6:4,4",
		"0:1,1", "1:1,1", "1:0,0", "13:1,1", "13:1,12", "100:1,1", "00:1,1",
		"18446744073709551620:1,3", "4:1,18446744073709551619", "4:18446744073709551617,3", "4294967300:1,3", "4:1,4294967299", "1000000000000000000000000000000:1,1",
		"a:b,c", "module", "01,10", "\xff\xfe", strings.Repeat(",", 1000000), strings.Repeat(":", 1000000), "4:" + strings.Repeat("1,", 1000000), "4:1," + strings.Repeat("0", 1000000) + "3", strings.Repeat("9", 1000000) + ":1,1",
	}
	for _, s := range bad {
		if !failed(all(impl.ParseModule(c2, s)), impl.ErrSyntax) {
			a, code := impl.ParseModule(c2, s)
			t.Errorf("ParseModule(c2, %.100q) = %v, %d", s, a, code)
		}
	}
	for s, want := range map[string]impl.Module{"4:1,3": {M: 4, Units: []int64{1, 3}}, "2:1,1": {M: 2, Units: []int64{1, 1}}, "12:1,11": {M: 12, Units: []int64{1, 11}}} {
		if a, code := impl.ParseModule(c2, s); !equalModules(a, want) || code != impl.ErrNone {
			t.Errorf("ParseModule(c2, %q) = %v, %d", s, a, code)
		}
	}
	eight := "12:1,5,7,11,1,5,7,11"
	if a, code := impl.ParseModule(named(t, "cube"), eight); len(a.Units) != 8 || code != impl.ErrNone {
		t.Errorf("ParseModule(cube, %q) = %v, %d", eight, a, code)
	}
	for _, more := range []string{",", ",1", ",0", ",1,1"} {
		if !failed(all(impl.ParseModule(named(t, "cube"), eight+more)), impl.ErrSyntax) {
			t.Errorf("ParseModule(cube, %q) has no module", eight+more)
		}
	}
}

// TestModulesShareNoMemory overwrites results: neither other modules of them, nor arguments, nor
// other results change.
func TestModulesShareNoMemory(t *testing.T) {
	g, a := named(t, "klein"), impl.Module{M: 12, Units: []int64{1, 5, 7, 11}}
	units := func(a impl.Module, code int64) [][]int64 { return [][]int64{a.Units} }
	single := func(l []int64, code int64) [][]int64 { return [][]int64{l} }
	calls := map[string]func() [][]int64{
		"TrivialModule":     func() [][]int64 { return units(impl.TrivialModule(g, 12)) },
		"DualModule":        func() [][]int64 { return units(impl.DualModule(g, a)) },
		"ProductModule":     func() [][]int64 { return units(impl.ProductModule(g, a, a)) },
		"ReduceModule":      func() [][]int64 { return units(impl.ReduceModule(g, a, 12)) },
		"RestrictModule":    func() [][]int64 { return units(impl.RestrictModule(g, g, []int64{0, 1, 2, 3}, a)) },
		"ParseModule":       func() [][]int64 { return units(impl.ParseModule(g, "12:1,5,7,11")) },
		"FixedNumbers":      func() [][]int64 { return single(impl.FixedNumbers(g, a)) },
		"DifferenceNumbers": func() [][]int64 { return single(impl.DifferenceNumbers(g, a)) },
		"KernelOf":          func() [][]int64 { return single(impl.KernelOf(g, a)) },
		"MapsOfModules":     func() [][]int64 { return single(impl.MapsOfModules(g, a, a)) },
		"ModulesOf": func() [][]int64 {
			var rows [][]int64
			for _, b := range modulesOf(t, g, 12) {
				rows = append(rows, b.Units)
			}
			return rows
		},
	}
	checkSharing(t, calls, func() string { return fmt.Sprint(g, a) })
}

func TestModuleArgumentsAreKept(t *testing.T) {
	for _, name := range allNames {
		g := spareGroup(named(t, name))
		n := len(g.Table)
		images := spare(make([]int64, n))
		for m := int64(2); m <= 12; m++ {
			for _, plain := range modulesOf(t, g, m) {
				a := spareModule(plain)
				before := wholeGroup(g) + fmt.Sprint(a, a.Units[:n+3], images[:n+3])
				impl.IsModule(g, a)
				impl.LeadNumber(g, a, 0, 1)
				impl.FixedNumbers(g, a)
				impl.DifferenceNumbers(g, a)
				impl.NormOf(g, a)
				impl.KernelOf(g, a)
				impl.DualModule(g, a)
				impl.ProductModule(g, a, a)
				impl.ReduceModule(g, a, m)
				impl.RestrictModule(g, g, images, a)
				impl.MapsOfModules(g, a, a)
				impl.ModuleText(g, a)
				impl.ParseModule(g, "2:1")
				if wholeGroup(g)+fmt.Sprint(a, a.Units[:n+3], images[:n+3]) != before {
					t.Errorf("%s: an argument has changed", name)
				}
			}
		}
	}
}
