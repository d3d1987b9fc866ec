package tests

import (
	"math"
	"slices"
	"testing"

	"loop.example/g01363/impl"
)

// divides reports whether a number above 0 divides another one, tried out with its multiples.
func divides(d, x int64) bool {
	multiple := int64(0)
	for multiple < x {
		multiple += d
	}
	return multiple == x
}

// isUnitByHand reports whether a number in 1..m - 1 has no common divisor with m greater than 1.
func isUnitByHand(m, u int64) bool {
	for d := int64(2); d <= m; d++ {
		if divides(d, m) && divides(d, u) {
			return false
		}
	}
	return u >= 1 && u < m
}

// isModuleByHand reports whether a is a module of a group, as the document tells it.
func isModuleByHand(g impl.Group, a impl.Module) bool {
	if a.M < 2 || a.M > 12 || len(a.Units) != len(g.Table) || a.Units[0] != 1 {
		return false
	}
	for _, u := range a.Units {
		if u < 1 || u >= a.M || !isUnitByHand(a.M, u) {
			return false
		}
	}
	for x, u := range a.Units {
		for y, v := range a.Units {
			if a.Units[g.Table[x][y]]%a.M != u*v%a.M {
				return false
			}
		}
	}
	return true
}

// modulesOf returns all modules of a group with M = m.
func modulesOf(t *testing.T, g impl.Group, m int64) []impl.Module {
	t.Helper()
	modules, code := impl.ModulesOf(g, m)
	if code != impl.ErrNone || len(modules) == 0 {
		t.Fatalf("ModulesOf(%v, %d) = %v, %d", g, m, modules, code)
	}
	return modules
}

// eachModule calls a function for all modules of all groups with names, and of these renumbered.
func eachModule(t *testing.T, call func(name string, g impl.Group, a impl.Module)) {
	t.Helper()
	for name, g := range sampleGroups(t) {
		for m := int64(2); m <= 12; m++ {
			for _, a := range modulesOf(t, g, m) {
				call(name, g, a)
			}
		}
	}
}

// equalModules reports whether two modules are equal.
func equalModules(a, b impl.Module) bool { return a.M == b.M && slices.Equal(a.Units, b.Units) }

// notModules returns what is no module of c4, for one reason each.
func notModules() map[string]impl.Module {
	return map[string]impl.Module{
		"the zero value":           {},
		"no units":                 {M: 5},
		"empty units":              {M: 5, Units: []int64{}},
		"too few units":            {M: 5, Units: []int64{1, 2, 4}},
		"too many units":           {M: 5, Units: []int64{1, 2, 4, 3, 1}},
		"nine units":               {M: 5, Units: []int64{1, 2, 4, 3, 1, 2, 4, 3, 1}},
		"a great many units":       {M: 5, Units: slices.Repeat([]int64{1}, 100000)},
		"M of 1":                   {M: 1, Units: []int64{1, 1, 1, 1}},
		"M of 1 and units of 0":    {M: 1, Units: []int64{0, 0, 0, 0}},
		"M of 0":                   {M: 0, Units: []int64{1, 1, 1, 1}},
		"M of -1":                  {M: -1, Units: []int64{1, 1, 1, 1}},
		"M of -5":                  {M: -5, Units: []int64{1, 2, 4, 3}},
		"M of 13":                  {M: 13, Units: []int64{1, 1, 1, 1}},
		"the least M":              {M: math.MinInt64, Units: []int64{1, 1, 1, 1}},
		"the greatest M":           {M: math.MaxInt64, Units: []int64{1, 1, 1, 1}},
		"a unit of 0":              {M: 5, Units: []int64{1, 0, 1, 1}},
		"units of 0":               {M: 5, Units: []int64{0, 0, 0, 0}},
		"a unit less than 0":       {M: 5, Units: []int64{1, -1, 1, -1}},
		"a unit as great as M":     {M: 5, Units: []int64{1, 5, 1, 1}},
		"a unit greater than M":    {M: 5, Units: []int64{1, 7, 4, 3}},
		"the identity with M + 1":  {M: 5, Units: []int64{6, 2, 4, 3}},
		"the least unit":           {M: 5, Units: []int64{1, math.MinInt64, 4, 3}},
		"the greatest unit":        {M: 5, Units: []int64{1, math.MaxInt64, 4, 3}},
		"a common divisor with M":  {M: 4, Units: []int64{1, 2, 1, 2}},
		"its own square, no unit":  {M: 6, Units: []int64{3, 3, 3, 3}},
		"the identity not with 1":  {M: 5, Units: []int64{4, 4, 4, 4}},
		"not the unit of products": {M: 5, Units: []int64{1, 4, 4, 4}},
		"one product is wrong":     {M: 5, Units: []int64{1, 2, 4, 2}},
		"elements exchanged":       {M: 5, Units: []int64{1, 4, 2, 3}},
	}
}

// badModuli returns numbers that are no M of a module.
func badModuli() []int64 {
	return []int64{1, 0, -1, -2, -12, 13, 14, 24, math.MinInt64, math.MinInt64 + 1, math.MaxInt64}
}

// spareModule returns a copy of a module whose Units have marked spare capacity.
func spareModule(a impl.Module) impl.Module {
	return impl.Module{M: a.M, Units: spare(a.Units)}
}

// cyclicParts are the orders of the cyclic groups whose direct product is the quotient of a named
// group by its derived subgroup.
var cyclicParts = map[string][]int64{
	"c1": {}, "c2": {2}, "c3": {3}, "c4": {4}, "c5": {5}, "c6": {6}, "c7": {7}, "c8": {8},
	"klein": {2, 2}, "cube": {2, 2, 2}, "c2c4": {2, 4}, "s3": {2}, "dihedral": {2, 2}, "quaternion": {2, 2},
}

// countModulesByHand returns the number of modules with M = m: for each of the cyclic parts a unit
// can be chosen whose power of its order has the rest 1.
func countModulesByHand(name string, m int64) int {
	count := 1
	for _, k := range cyclicParts[name] {
		choices := 0
		for u := int64(1); u < m; u++ {
			power := int64(1)
			for range k {
				power = power * u % m
			}
			if power == 1 {
				choices++
			}
		}
		count *= choices
	}
	return count
}
