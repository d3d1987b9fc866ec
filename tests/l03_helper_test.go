package tests

import (
	"fmt"
	"math"
	"slices"
	"strings"
	"testing"

	"loop.example/g01363/impl"
)

// cellsByHand returns all lists of n elements of a group other than 0, in lexicographic order.
func cellsByHand(g impl.Group, n int64) [][]int64 {
	cells := lists(n, int64(len(g.Table))-1)
	for _, list := range cells {
		for i := range list {
			list[i]++
		}
	}
	return cells
}

// listKey is a list of at most four elements, as a key.
type listKey [5]int64

// keyByHand returns the key of a list.
func keyByHand(list []int64) listKey {
	key := listKey{int64(len(list))}
	copy(key[1:], list)
	return key
}

// valuesByHand returns the values of a cochain at all lists without 0; others have none in the map,
// and so 0.
func valuesByHand(g impl.Group, f impl.Cochain) map[listKey]int64 {
	values := map[listKey]int64{}
	for i, list := range cellsByHand(g, f.Degree) {
		values[keyByHand(list)] = f.Values[i]
	}
	return values
}

// restByHand returns the rest of x by m, by steps of m.
func restByHand(x, m int64) int64 {
	for x < 0 {
		x += m
	}
	for x >= m {
		x -= m
	}
	return x
}

// cochainByHand returns the cochain with the degree n and the rests of the values that a function
// tells.
func cochainByHand(g impl.Group, m, n int64, value func(list []int64) int64) impl.Cochain {
	f := impl.Cochain{Degree: n}
	for _, list := range cellsByHand(g, n) {
		f.Values = append(f.Values, restByHand(value(list), m))
	}
	return f
}

// boundaryByHand returns the boundary of a cochain, also that of the degree 4.
func boundaryByHand(g impl.Group, a impl.Module, f impl.Cochain) impl.Cochain {
	values := valuesByHand(g, f)
	n := int(f.Degree)
	return cochainByHand(g, a.M, f.Degree+1, func(list []int64) int64 {
		sum := a.Units[list[0]] * values[keyByHand(list[1:])]
		for i := 1; i <= n; i++ {
			merged := slices.Clone(list[:i-1])
			merged = append(merged, g.Table[list[i-1]][list[i]])
			merged = append(merged, list[i+1:]...)
			if i%2 == 0 {
				sum += values[keyByHand(merged)]
			} else {
				sum -= values[keyByHand(merged)]
			}
		}
		if n%2 == 0 {
			return sum - values[keyByHand(list[:n])]
		}
		return sum + values[keyByHand(list[:n])]
	})
}

// isZeroCochain reports whether a cochain has the value 0 at all lists.
func isZeroCochain(f impl.Cochain) bool {
	return !slices.ContainsFunc(f.Values, func(x int64) bool { return x != 0 })
}

// equalCochains reports whether two cochains are equal.
func equalCochains(f, h impl.Cochain) bool {
	return f.Degree == h.Degree && slices.Equal(f.Values, h.Values)
}

// mixed returns a number that a seed tells, from 0 on and less than m.
func mixed(seed, m int64) int64 {
	x := uint64(seed)*0x9e3779b97f4a7c15 + 0x1234567
	x ^= x >> 29
	x *= 0xbf58476d1ce4e5b9
	x ^= x >> 32
	return int64(x % uint64(m))
}

// sampleCochain returns a cochain of the degree n whose values a seed tells.
func sampleCochain(g impl.Group, a impl.Module, n, seed int64) impl.Cochain {
	i := seed * 1000
	return cochainByHand(g, a.M, n, func(list []int64) int64 {
		i++
		return mixed(i, a.M)
	})
}

// allCochains returns all cochains of the degree n.
func allCochains(g impl.Group, a impl.Module, n int64) []impl.Cochain {
	var cochains []impl.Cochain
	for _, values := range lists(int64(len(cellsByHand(g, n))), a.M) {
		cochains = append(cochains, impl.Cochain{Degree: n, Values: values})
	}
	return cochains
}

// eachCochain calls a function for a cochain of each degree up to a greatest one, of some modules of
// all groups with names, and of these renumbered.
func eachCochain(t *testing.T, greatest int64, call func(name string, g impl.Group, a impl.Module, f impl.Cochain)) {
	t.Helper()
	for name, g := range sampleGroups(t) {
		for m := int64(2); m <= 12; m++ {
			modules := modulesOf(t, g, m)
			for i := 0; i < len(modules); i += 1 + len(modules)/4 {
				for n := range greatest + 1 {
					call(name, g, modules[i], sampleCochain(g, modules[i], n, m+int64(i)))
				}
			}
		}
	}
}

// boundaryOf returns the boundary of a cochain.
func boundaryOf(t *testing.T, g impl.Group, a impl.Module, f impl.Cochain) impl.Cochain {
	t.Helper()
	boundary, code := impl.BoundaryOf(g, a, f)
	if code != impl.ErrNone {
		t.Fatalf("BoundaryOf(%v, %v, %v): code %d", g, a, f, code)
	}
	return boundary
}

// isCocycle reports whether a cochain is a cocycle.
func isCocycle(t *testing.T, g impl.Group, a impl.Module, f impl.Cochain) bool {
	t.Helper()
	yes, code := impl.IsCocycle(g, a, f)
	if code != impl.ErrNone {
		t.Fatalf("IsCocycle(%v, %v, %v): code %d", g, a, f, code)
	}
	return yes
}

// added returns f and k times h together.
func added(t *testing.T, g impl.Group, a impl.Module, f, h impl.Cochain, k int64) impl.Cochain {
	t.Helper()
	sum, code := impl.AddCochains(g, a, f, h, k)
	if code != impl.ErrNone {
		t.Fatalf("AddCochains(%v, %v, %v, %v, %d): code %d", g, a, f, h, k, code)
	}
	return sum
}

// productOf returns the product of cochains.
func productOf(t *testing.T, g impl.Group, a, b impl.Module, f, h impl.Cochain) impl.Cochain {
	t.Helper()
	product, code := impl.ProductOfCochains(g, a, b, f, h)
	if code != impl.ErrNone {
		t.Fatalf("ProductOfCochains(%v, %v, %v, %v, %v): code %d", g, a, b, f, h, code)
	}
	return product
}

// moved returns f moved by an element.
func moved(t *testing.T, g impl.Group, a impl.Module, f impl.Cochain, c int64) impl.Cochain {
	t.Helper()
	h, code := impl.MoveCochain(g, a, f, c)
	if code != impl.ErrNone {
		t.Fatalf("MoveCochain(%v, %v, %v, %d): code %d", g, a, f, c, code)
	}
	return h
}

// textByHand returns the text of a cochain.
func textByHand(f impl.Cochain) string {
	return fmt.Sprint(f.Degree) + ":" + strings.ReplaceAll(strings.Trim(fmt.Sprint(f.Values), "[]"), " ", ",")
}

// badDegrees returns numbers that are no Degree of a cochain.
func badDegrees() []int64 {
	return []int64{-1, -2, -3, 4, 5, 100, math.MinInt64, math.MinInt64 + 1, math.MaxInt64}
}

// notCochains returns what is no cochain of c3 and a module with M = 4, for one reason each.
func notCochains() map[string]impl.Cochain {
	bad := map[string]impl.Cochain{
		"the zero value":          {},
		"empty values":            {Values: []int64{}},
		"two values for 0":        {Values: []int64{1, 2}},
		"no values for 1":         {Degree: 1},
		"one value for 1":         {Degree: 1, Values: []int64{1}},
		"three values for 1":      {Degree: 1, Values: []int64{1, 2, 3}},
		"values of 2 for 1":       {Degree: 1, Values: []int64{1, 2, 3, 0}},
		"values of 1 for 2":       {Degree: 2, Values: []int64{1, 2}},
		"three values for 2":      {Degree: 2, Values: []int64{1, 2, 3}},
		"five values for 2":       {Degree: 2, Values: []int64{1, 2, 3, 0, 1}},
		"values with 0 for 2":     {Degree: 2, Values: make([]int64, 9)},
		"seven values for 3":      {Degree: 3, Values: make([]int64, 7)},
		"nine values for 3":       {Degree: 3, Values: make([]int64, 9)},
		"a great many values":     {Degree: 2, Values: make([]int64, 100000)},
		"values of the degree 4":  {Degree: 4, Values: make([]int64, 16)},
		"values of the degree 5":  {Degree: 5, Values: make([]int64, 32)},
		"a value less than 0":     {Degree: 1, Values: []int64{1, -1}},
		"the first less than 0":   {Degree: 2, Values: []int64{-1, 1, 1, 1}},
		"a value as great as M":   {Degree: 1, Values: []int64{4, 1}},
		"the last as great as M":  {Degree: 2, Values: []int64{1, 1, 1, 4}},
		"the only as great as M":  {Values: []int64{4}},
		"the only less than 0":    {Values: []int64{-1}},
		"a value greater than M":  {Degree: 1, Values: []int64{1, 5}},
		"the least value":         {Degree: 1, Values: []int64{math.MinInt64, 1}},
		"the greatest value":      {Degree: 1, Values: []int64{1, math.MaxInt64}},
		"as great as M, degree 3": {Degree: 3, Values: []int64{0, 1, 2, 3, 4, 3, 2, 1}},
	}
	for _, n := range badDegrees() {
		bad[fmt.Sprintf("the degree %d", n)] = impl.Cochain{Degree: n, Values: []int64{1, 2}}
		bad[fmt.Sprintf("the degree %d, one value", n)] = impl.Cochain{Degree: n, Values: []int64{1}}
		bad[fmt.Sprintf("the degree %d, no values", n)] = impl.Cochain{Degree: n}
	}
	return bad
}

// spareCochain returns a copy of a cochain whose Values have marked spare capacity.
func spareCochain(f impl.Cochain) impl.Cochain {
	return impl.Cochain{Degree: f.Degree, Values: spare(f.Values)}
}
