package tests

import (
	"fmt"
	"math"
	"slices"
	"testing"

	"loop.example/g01363/impl"
)

// farDegrees are degrees, and what is none.
var farDegrees = []int64{0, 1, 2, 3, 4, -1, math.MinInt64, math.MaxInt64}

// notDivisors returns numbers k that are not as told for M = m.
func notDivisors(m int64) []int64 {
	bad := []int64{
		1, 0, -1, -2, -3, -m, m, m + 1, 2 * m, 1 - m, 13, 24, 60,
		math.MinInt64, math.MinInt64 + 1, math.MinInt64 + 2, math.MaxInt64, math.MaxInt64 - 1,
	}
	for k := int64(2); k < m; k++ {
		if !divides(k, m) {
			bad = append(bad, k)
		}
	}
	return bad
}

// TestInvalidGroupsOfSequences asks each function for what is no group, whatever the other arguments are.
func TestInvalidGroupsOfSequences(t *testing.T) {
	for name, g := range notGroups() {
		a := impl.Module{M: 4, Units: slices.Repeat([]int64{1}, len(g.Table))}
		for _, k := range append(notDivisors(4), 2) {
			for i, f := range someCochains() {
				checkSequenceCode(t, fmt.Sprint(name, ", ", k), impl.ErrInvalid, g, a, k, farDegrees[i%len(farDegrees)], f)
			}
		}
	}
}

// TestInvalidModulesOfSequences asks each function for what is no module, beside numbers k, degrees and
// cochains of all kinds.
func TestInvalidModulesOfSequences(t *testing.T) {
	c4 := named(t, "c4")
	check := func(what string, g impl.Group, a impl.Module) {
		for _, k := range append(notDivisors(12), 2, 3, 4, 6) {
			for i, f := range someCochains() {
				checkSequenceCode(t, fmt.Sprint(what, ", ", k), impl.ErrInvalid, g, a, k, farDegrees[i%len(farDegrees)], f)
			}
		}
	}
	for name, a := range notModules() {
		check(name, c4, a)
	}
	for _, m := range badModuli() {
		check(fmt.Sprint("M = ", m), c4, impl.Module{M: m, Units: []int64{1, 1, 1, 1}})
		check(fmt.Sprint("c1, M = ", m), named(t, "c1"), impl.Module{M: m, Units: []int64{1}})
	}
	// A module of a greater group is none. Of eight elements the degree 2 has too many values besides.
	check("units of four elements", named(t, "c2"), impl.Module{M: 12, Units: []int64{1, 1, 1, 1}})
	check("no units of eight elements", named(t, "cube"), impl.Module{M: 12})
}

// TestNumbersThatAreNoDivisors: they are ErrRange, whatever the cochain is, and also where a degree is
// none, or its cochains have too many values.
func TestNumbersThatAreNoDivisors(t *testing.T) {
	cochains := someCochains()
	for name, g := range sampleGroups(t) {
		for m := int64(2); m <= 12; m++ {
			for _, a := range firstAndLast(t, g, []int64{m}) {
				for i, k := range notDivisors(m) {
					what := fmt.Sprint(name, ", ", a, ", ", k)
					checkSequenceCode(t, what, impl.ErrRange, g, a, k, farDegrees[i%len(farDegrees)], cochains[(i+int(m))%len(cochains)])
					checkCode(t, what, impl.ErrRange, sequenceCochainCalls(g, a, k, sampleCochain(g, a, m%3, m)))
				}
			}
		}
	}
	c3 := named(t, "c3")
	for m := int64(2); m <= 12; m++ {
		a := modulesOf(t, c3, m)[0]
		for _, k := range notDivisors(m) {
			for _, f := range cochains {
				checkCode(t, fmt.Sprint("c3, ", m, ", ", k), impl.ErrRange, sequenceCochainCalls(c3, a, k, f))
			}
			for _, n := range farDegrees {
				checkCode(t, fmt.Sprint("c3, ", m, ", ", k, ", ", n), impl.ErrRange, imageCalls(c3, a, k, n))
			}
		}
	}
}

// TestDivisors: each divisor is accepted by all functions, and a prime M has none.
func TestDivisors(t *testing.T) {
	divisors := map[int64][]int64{4: {2}, 6: {2, 3}, 8: {2, 4}, 9: {3}, 10: {2, 5}, 12: {2, 3, 4, 6}}
	for name, g := range sampleGroups(t) {
		for m := int64(2); m <= 12; m++ {
			for _, a := range firstAndLast(t, g, []int64{m}) {
				var accepted []int64
				for k := int64(-20); k <= 20; k++ {
					codes := map[int64]bool{}
					for _, calls := range []map[string][]any{sequenceModuleCalls(g, a, k), sequenceCochainCalls(g, a, k, impl.Cochain{Values: []int64{0}}), imageCalls(g, a, k, 0)} {
						for _, results := range calls {
							codes[codeOf(results)] = true
						}
					}
					if len(codes) != 1 || !codes[impl.ErrNone] && !codes[impl.ErrRange] {
						t.Errorf("%s, %v, %d: the codes %v", name, a, k, codes)
					}
					if codes[impl.ErrNone] {
						accepted = append(accepted, k)
					}
				}
				if !slices.Equal(accepted, divisors[m]) {
					t.Errorf("%s, %v: the numbers %v are accepted", name, a, accepted)
				}
			}
		}
	}
}

// TestInvalidCochainsOfSequences asks for what is no cochain of c3 and any of the three modules.
func TestInvalidCochainsOfSequences(t *testing.T) {
	c3 := named(t, "c3")
	four, eight := impl.Module{M: 4, Units: []int64{1, 1, 1}}, impl.Module{M: 8, Units: []int64{1, 1, 1}}
	for name, f := range notCochains() {
		checkCode(t, name, impl.ErrInvalid, sequenceCochainCalls(c3, four, 2, f))
		// They are none for M = 4; for M = 8 those with values from 4 on may be some.
		if slices.ContainsFunc(f.Values, func(x int64) bool { return x >= 4 && x < 8 }) {
			continue
		}
		for _, k := range []int64{2, 4} {
			checkCode(t, fmt.Sprint(name, ", ", k), impl.ErrInvalid, sequenceCochainCalls(c3, eight, k, f))
		}
	}
}

// TestCochainsOfOtherModules: each function asks for a cochain of its own module, with values less than the M
// of this one.
func TestCochainsOfOtherModules(t *testing.T) {
	for name, g := range sampleGroups(t) {
		for _, m := range compositeModuli {
			for _, a := range firstAndLast(t, g, []int64{m}) {
				for _, k := range divisorsByHand(m) {
					s := newSequence(name, g, a, k)
					limits := map[string]int64{"EmbedCochain": s.k, "ReduceCochain": m, "LiftCochain": s.q, "ConnectingCochain": s.q}
					for n := range int64(3) {
						zero := impl.Cochain{Degree: n, Values: make([]int64, len(cellsByHand(g, n)))}
						last := len(zero.Values) - 1
						if last < 0 {
							continue
						}
						for _, x := range []int64{s.k - 1, s.k, s.q - 1, s.q, m - 1, m, m + 1, -1, math.MinInt64, math.MaxInt64} {
							zero.Values[last] = x
							checkLimits(t, s, zero, x, limits)
						}
					}
				}
			}
		}
	}
}

// checkLimits: a cochain whose last value is x is refused just if x is no value. What has no error but is no
// cocycle has no connecting cochain.
func checkLimits(t *testing.T, s sequenceByHand, f impl.Cochain, x int64, limits map[string]int64) {
	t.Helper()
	for call, results := range sequenceCochainCalls(s.g, s.whole, s.k, f) {
		if isValue := x >= 0 && x < limits[call]; isValue && codeOf(results) == impl.ErrInvalid || !isValue && !failed(results, impl.ErrInvalid) {
			t.Errorf("%s(%s, %v): %v", call, s.name, f, results)
		}
		if call != "ConnectingCochain" && codeOf(results) != impl.ErrInvalid && codeOf(results) != impl.ErrNone {
			t.Errorf("%s(%s, %v): %v", call, s.name, f, results)
		}
	}
}

// TestConnectingDegreeThree: a cochain of the degree 3 is ErrRange, be it a cocycle or not; what is none is
// ErrInvalid.
func TestConnectingDegreeThree(t *testing.T) {
	for name, g := range sampleGroups(t) {
		for _, a := range firstAndLast(t, g, compositeModuli) {
			for _, k := range divisorsByHand(a.M) {
				s := newSequence(name, g, a, k)
				zero := impl.Cochain{Degree: 3, Values: make([]int64, len(cellsByHand(g, 3)))}
				for _, f := range []impl.Cochain{zero, sampleCochain(g, s.outer, 3, k)} {
					if results := all(impl.ConnectingCochain(g, a, k, f)); !failed(results, impl.ErrRange) {
						t.Errorf("ConnectingCochain(%s, %v): %v", s.name, f, results)
					}
				}
				if len(zero.Values) == 0 {
					continue
				}
				zero.Values[0] = s.q
				if results := all(impl.ConnectingCochain(g, a, k, zero)); !failed(results, impl.ErrInvalid) {
					t.Errorf("ConnectingCochain(%s, %v): %v", s.name, zero, results)
				}
			}
		}
	}
}

// TestConnectingWithoutCocycle: a cochain that is no cocycle of the outer module is ErrState, also one whose
// Values are those of a cocycle of another module.
func TestConnectingWithoutCocycle(t *testing.T) {
	none := 0
	eachSomeSequence(t, func(s sequenceByHand) {
		for n := range int64(3) {
			f := sampleCochain(s.g, s.outer, n, s.k)
			if isCocycleByHand(s.g, s.outer, f) {
				continue
			}
			none++
			if results := all(impl.ConnectingCochain(s.g, s.whole, s.k, f)); !failed(results, impl.ErrState) {
				t.Errorf("ConnectingCochain(%s, %v): %v", s.name, f, results)
			}
		}
	})
	if none < 1000 {
		t.Errorf("only %d cochains are no cocycles", none)
	}
	// The unit 5 has the rest 2 by 3, and -1 by 2 is 1.
	c2, a, f := named(t, "c2"), impl.Module{M: 6, Units: []int64{1, 5}}, impl.Cochain{Values: []int64{1}}
	if results := all(impl.ConnectingCochain(c2, a, 2, f)); !failed(results, impl.ErrState) {
		t.Errorf("ConnectingCochain(c2, %v, 2, %v): %v", a, f, results)
	}
	if results := all(impl.ConnectingCochain(c2, a, 3, f)); codeOf(results) != impl.ErrNone {
		t.Errorf("ConnectingCochain(c2, %v, 3, %v): %v", a, f, results)
	}
}

// TestImageOrdersLimit: the degree 2 is accepted for at most four elements; from five on the cochains of the
// degree 3 have more than MaxRank values. The degree 1 is accepted for all, with up to 49 values of the degree
// 2. The degree 3 and what is no degree are ErrRange, also where there are too many values.
func TestImageOrdersLimit(t *testing.T) {
	for name, g := range sampleGroups(t) {
		for _, a := range firstAndLast(t, g, compositeModuli) {
			for _, k := range divisorsByHand(a.M) {
				what := fmt.Sprint(name, ", ", a, ", ", k)
				for _, n := range append(badDegrees(), 3) {
					checkCode(t, fmt.Sprint(what, ", ", n), impl.ErrRange, imageCalls(g, a, k, n))
				}
				for n := range int64(3) {
					results := all(impl.ImageOrders(g, a, k, n))
					if n == 2 && len(g.Table) > 4 {
						if !failed(results, impl.ErrLimit) {
							t.Errorf("ImageOrders(%s, %d): %v", what, n, results)
						}
					} else if codeOf(results) != impl.ErrNone || len(results[0].([]int64)) != 3 {
						t.Errorf("ImageOrders(%s, %d): %v", what, n, results)
					}
				}
			}
		}
	}
}

// TestSequencesShareNoMemory overwrites results: neither arguments, nor other results change.
func TestSequencesShareNoMemory(t *testing.T) {
	g := named(t, "dihedral")
	a := modulesOf(t, g, 8)[7]
	s := newSequence("dihedral", g, a, 4)
	f := someCocycles(t, g, s.outer, 2)[0]
	units := func(b impl.Module, code int64) [][]int64 { return [][]int64{b.Units} }
	values := func(f impl.Cochain, code int64) [][]int64 { return [][]int64{f.Values} }
	calls := map[string]func() [][]int64{
		"InnerModule":       func() [][]int64 { return units(impl.InnerModule(g, a, 4)) },
		"OuterModule":       func() [][]int64 { return units(impl.OuterModule(g, a, 4)) },
		"EmbedCochain":      func() [][]int64 { return values(impl.EmbedCochain(g, a, 4, f)) },
		"ReduceCochain":     func() [][]int64 { return values(impl.ReduceCochain(g, a, 4, f)) },
		"LiftCochain":       func() [][]int64 { return values(impl.LiftCochain(g, a, 4, f)) },
		"ConnectingCochain": func() [][]int64 { return values(impl.ConnectingCochain(g, a, 4, f)) },
		"ImageOrders": func() [][]int64 {
			orders, _ := impl.ImageOrders(g, a, 4, 1)
			return [][]int64{orders}
		},
	}
	checkSharing(t, calls, func() string { return fmt.Sprint(g, a, f) })
}

func TestSequenceArgumentsAreKept(t *testing.T) {
	for _, name := range allNames {
		plain := named(t, name)
		g := spareGroup(plain)
		count := len(g.Table)
		for _, whole := range firstAndLast(t, plain, []int64{4, 12}) {
			a := spareModule(whole)
			for _, k := range divisorsByHand(a.M) {
				s := newSequence(name, plain, whole, k)
				for n := range int64(3) {
					f := spareCochain(someCocycles(t, plain, s.outer, n)[0])
					told := func() string {
						return wholeGroup(g) + fmt.Sprint(a, a.Units[:count+3], f, f.Values[:len(f.Values)+3])
					}
					before := told()
					sequenceModuleCalls(g, a, k)
					sequenceCochainCalls(g, a, k, f)
					imageCalls(g, a, k, n)
					if told() != before {
						t.Errorf("%s, %d: an argument has changed", s.name, n)
					}
				}
			}
		}
	}
}

// TestNoGoroutineOfSequencesIsLeft: after many calls, those with errors among them, there are no more
// goroutines than before.
func TestNoGoroutineOfSequencesIsLeft(t *testing.T) {
	g := named(t, "klein")
	checkNoGoroutineLeft(t, func() {
		for _, a := range modulesOf(t, g, 12) {
			for _, k := range append(notDivisors(12), 2, 3, 4, 6) {
				sequenceModuleCalls(g, a, k)
				sequenceCochainCalls(g, a, k, impl.Cochain{Values: []int64{1}})
				imageCalls(g, a, k, 1)
			}
		}
	})
}

// TestSequencesAgain: the same arguments have the same results, also where calls go on side by side.
func TestSequencesAgain(t *testing.T) {
	g := named(t, "klein")
	modules := modulesOf(t, g, 12)
	checkAgain(t, func() string {
		told := ""
		for _, a := range modules {
			for _, k := range []int64{2, 3, 4, 5, 6, 12} {
				told += fmt.Sprint(sequenceModuleCalls(g, a, k), sequenceCochainCalls(g, a, k, sampleCochain(g, a, 1, k)), imageCalls(g, a, k, 2))
			}
		}
		return told
	})
}
