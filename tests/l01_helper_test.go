package tests

import (
	"math"
	"reflect"
	"slices"
	"testing"

	"loop.example/g01363/impl"
)

// allNames are the names of all groups with names.
var allNames = []string{
	"c1", "c2", "c3", "c4", "c5", "c6", "c7", "c8",
	"klein", "cube", "c2c4", "s3", "dihedral", "quaternion",
}

// named returns the group with a name.
func named(t *testing.T, name string) impl.Group {
	t.Helper()
	g, code := impl.NamedGroup(name)
	if code != impl.ErrNone {
		t.Fatalf("NamedGroup(%q): code %d", name, code)
	}
	return g
}

// turned returns a group with all elements but 0 in the reverse order.
func turned(t *testing.T, g impl.Group) impl.Group {
	t.Helper()
	n := int64(len(g.Table))
	p := make([]int64, n)
	for a := int64(1); a < n; a++ {
		p[a] = n - a
	}
	h, code := impl.RenumberGroup(g, p)
	if code != impl.ErrNone {
		t.Fatalf("RenumberGroup(%v): code %d", p, code)
	}
	return h
}

// sampleGroups returns all groups with names, and all of them renumbered.
func sampleGroups(t *testing.T) map[string]impl.Group {
	t.Helper()
	groups := map[string]impl.Group{}
	for _, name := range allNames {
		groups[name] = named(t, name)
		groups[name+" turned"] = turned(t, named(t, name))
	}
	return groups
}

// table returns the table of n numbers with the given products.
func table(n int64, product func(a, b int64) int64) [][]int64 {
	rows := make([][]int64, n)
	for a := range n {
		rows[a] = make([]int64, n)
		for b := range n {
			rows[a][b] = product(a, b)
		}
	}
	return rows
}

// notGroups returns what is no group, for one reason each.
func notGroups() map[string]impl.Group {
	return map[string]impl.Group{
		"nil":                  {},
		"empty":                {Table: [][]int64{}},
		"an empty row":         {Table: [][]int64{{}}},
		"a nil row":            {Table: [][]int64{{0, 1}, nil}},
		"a long row":           {Table: [][]int64{{0, 1, 0}, {1, 0, 0}}},
		"a short row":          {Table: [][]int64{{0, 1}, {1}}},
		"a row too many":       {Table: [][]int64{{0, 1}, {1, 0}, {0, 1}}},
		"a row missing":        {Table: [][]int64{{0, 1}}},
		"nine elements":        {Table: table(9, func(a, b int64) int64 { return (a + b) % 9 })},
		"sixteen elements":     {Table: table(16, func(a, b int64) int64 { return a ^ b })},
		"one element, not 0":   {Table: [][]int64{{1}}},
		"less than 0":          {Table: [][]int64{{0, 1}, {1, -1}}},
		"as many as elements":  {Table: [][]int64{{0, 1}, {1, 2}}},
		"the least number":     {Table: [][]int64{{0, 1}, {1, math.MinInt64}}},
		"the greatest number":  {Table: [][]int64{{0, 1}, {1, math.MaxInt64}}},
		"identity not 0":       {Table: [][]int64{{1, 0}, {0, 1}}},
		"0 a is not a":         {Table: [][]int64{{0, 0}, {1, 1}}},
		"a 0 is not a":         {Table: [][]int64{{0, 1}, {0, 1}}},
		"no inverse":           {Table: [][]int64{{0, 1}, {1, 1}}},
		"numbers by their max": {Table: table(8, func(a, b int64) int64 { return max(a, b) })},
		"brackets matter, with rows and columns of all numbers": {Table: [][]int64{
			{0, 1, 2, 3, 4}, {1, 0, 3, 4, 2}, {2, 4, 0, 1, 3}, {3, 2, 4, 0, 1}, {4, 3, 1, 2, 0},
		}},
		"brackets matter, with two inverses": {Table: [][]int64{{0, 1, 2}, {1, 0, 0}, {2, 0, 0}}},
	}
}

// failed reports whether a call returned a code, and zero values beside it.
func failed(results []any, code int64) bool {
	last := len(results) - 1
	for _, r := range results[:last] {
		if !isZero(reflect.ValueOf(r)) {
			return false
		}
	}
	return results[last] == any(code)
}

// isZero reports whether a value is zero, nil and empty slices being the same.
func isZero(v reflect.Value) bool {
	switch v.Kind() {
	case reflect.Slice:
		return v.Len() == 0
	case reflect.Struct:
		for i := range v.NumField() {
			if !isZero(v.Field(i)) {
				return false
			}
		}
		return true
	}
	return v.IsZero()
}

// all puts the results of a call into a list.
func all(results ...any) []any { return results }

// sublists returns all ascending lists of different numbers of 0..n - 1.
func sublists(n int64) [][]int64 {
	lists := [][]int64{{}}
	for a := range n {
		for _, l := range lists[:len(lists):len(lists)] {
			lists = append(lists, append(slices.Clone(l), a))
		}
	}
	return lists
}

// lists returns all lists of n numbers of 0..m - 1, in lexicographic order.
func lists(n, m int64) [][]int64 {
	result := [][]int64{{}}
	for range n {
		var longer [][]int64
		for _, l := range result {
			for c := range m {
				longer = append(longer, append(slices.Clone(l), c))
			}
		}
		result = longer
	}
	return result
}

// equalLists reports whether lists of lists are equal, nil and empty ones being the same.
func equalLists(a, b [][]int64) bool {
	return slices.EqualFunc(a, b, slices.Equal[[]int64])
}

// byHand returns the inverse of an element, looked for in the table.
func byHand(g impl.Group, a int64) int64 {
	for b := range int64(len(g.Table)) {
		if g.Table[a][b] == 0 && g.Table[b][a] == 0 {
			return b
		}
	}
	return -1
}

// checkSharing overwrites, in turn, each list of the results of some calls: neither other lists of
// the result, nor the arguments, told as a text, nor later results change.
func checkSharing(t *testing.T, calls map[string]func() [][]int64, arguments func() string) {
	t.Helper()
	before := arguments()
	for name, call := range calls {
		want := call()
		for i := range want {
			got := call()
			overwrite(got[i])
			for j := range got {
				if j != i && !slices.Equal(got[j], want[j]) {
					t.Errorf("%s: the lists %d and %d share memory", name, i, j)
				}
			}
		}
		if arguments() != before || !equalLists(call(), want) {
			t.Errorf("%s shares memory with its argument", name)
		}
	}
}
