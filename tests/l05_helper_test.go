package tests

import (
	"fmt"
	"slices"
	"testing"

	"loop.example/g01363/impl"
)

// isCrossedByHand reports whether a list of a number for each element is a crossed map, as the document
// tells it.
func isCrossedByHand(g impl.Group, a impl.Module, list []int64) bool {
	for x, row := range g.Table {
		for y, product := range row {
			if list[product] != restByHand(list[x]+a.Units[x]*list[y], a.M) {
				return false
			}
		}
	}
	return true
}

// principalByHand returns the principal map of a number.
func principalByHand(a impl.Module, m int64) []int64 {
	var list []int64
	for _, u := range a.Units {
		list = append(list, restByHand(u*m, a.M)-m)
	}
	for x := range list {
		list[x] = restByHand(list[x], a.M)
	}
	return list
}

// classByHand returns all maps of the class of a crossed map, in lexicographic order, each one once.
func classByHand(a impl.Module, list []int64) [][]int64 {
	var class [][]int64
	for m := range a.M {
		class = append(class, sumByHand(a.M, list, principalByHand(a, m)))
	}
	slices.SortFunc(class, slices.Compare[[]int64])
	return slices.CompactFunc(class, slices.Equal[[]int64])
}

// areAscending reports whether lists are in lexicographic order, each one once.
func areAscending(lists [][]int64) bool {
	for i := 1; i < len(lists); i++ {
		if slices.Compare(lists[i-1], lists[i]) >= 0 {
			return false
		}
	}
	return true
}

// hasList reports whether a list is among lists.
func hasList(lists [][]int64, list []int64) bool {
	return slices.ContainsFunc(lists, func(l []int64) bool { return slices.Equal(l, list) })
}

// pairParts is a pair with its number and its element apart.
type pairParts struct{ number, element int64 }

// partsByHand returns the parts of all pairs, in the order of the pairs.
func partsByHand(g impl.Group, a impl.Module) []pairParts {
	var parts []pairParts
	for x := range int64(len(g.Table)) {
		for m := range a.M {
			parts = append(parts, pairParts{m, x})
		}
	}
	return parts
}

// pairProductsByHand returns the products of all pairs, row by row.
func pairProductsByHand(g impl.Group, a impl.Module) [][]int64 {
	parts := partsByHand(g, a)
	rows := make([][]int64, len(parts))
	for i, p := range parts {
		for _, q := range parts {
			product := pairParts{restByHand(p.number+a.Units[p.element]*q.number, a.M), g.Table[p.element][q.element]}
			rows[i] = append(rows[i], product.element*a.M+product.number)
		}
	}
	return rows
}

// isComplementByHand reports whether a list of pairs is a complement, told by the products of all
// pairs.
func isComplementByHand(g impl.Group, a impl.Module, products [][]int64, pairs []int64) bool {
	parts := partsByHand(g, a)
	for x := range int64(len(g.Table)) {
		count := 0
		for _, p := range pairs {
			if parts[p].element == x {
				count++
			}
		}
		if count != 1 {
			return false
		}
	}
	for _, p := range pairs {
		for _, q := range pairs {
			if !slices.Contains(pairs, products[p][q]) {
				return false
			}
		}
	}
	return slices.IsSorted(pairs)
}

// crossedCalls calls all functions of the chapter that ask for a list of numbers.
func crossedCalls(g impl.Group, a impl.Module, list []int64) map[string][]any {
	return map[string][]any{
		"IsCrossed":       all(impl.IsCrossed(g, a, list)),
		"ClassOfCrossed":  all(impl.ClassOfCrossed(g, a, list)),
		"KernelOfCrossed": all(impl.KernelOfCrossed(g, a, list)),
		"ComplementOf":    all(impl.ComplementOf(g, a, list)),
	}
}

// mapCalls calls all functions of the chapter that ask for nothing but a group and a module.
func mapCalls(g impl.Group, a impl.Module) map[string][]any {
	return map[string][]any{
		"CrossedMaps":    all(impl.CrossedMaps(g, a)),
		"PrincipalMaps":  all(impl.PrincipalMaps(g, a)),
		"CrossedClasses": all(impl.CrossedClasses(g, a)),
	}
}

// pairCalls calls all functions of the chapter that ask for pairs. Another one comes beside p.
func pairCalls(g impl.Group, a impl.Module, p, other int64) map[string][]any {
	return map[string][]any{
		"PairProduct, first":  all(impl.PairProduct(g, a, p, other)),
		"PairProduct, second": all(impl.PairProduct(g, a, other, p)),
		"PairProduct, both":   all(impl.PairProduct(g, a, p, p)),
		"PairInverse":         all(impl.PairInverse(g, a, p)),
		"PairOrder":           all(impl.PairOrder(g, a, p)),
	}
}

// complementCalls calls all functions of the chapter that ask for a list of pairs.
func complementCalls(g impl.Group, a impl.Module, pairs []int64, m int64) map[string][]any {
	return map[string][]any{
		"IsComplement":        all(impl.IsComplement(g, a, pairs)),
		"ConjugateComplement": all(impl.ConjugateComplement(g, a, pairs, m)),
	}
}

// isCrossed reports whether a list is a crossed map.
func isCrossed(t *testing.T, g impl.Group, a impl.Module, list []int64) bool {
	t.Helper()
	return wanted[bool](t, fmt.Sprint("IsCrossed ", a, list))(impl.IsCrossed(g, a, list))
}

// crossedMaps returns all crossed maps.
func crossedMaps(t *testing.T, g impl.Group, a impl.Module) [][]int64 {
	t.Helper()
	return wanted[[][]int64](t, "CrossedMaps")(impl.CrossedMaps(g, a))
}

// principalMap returns the principal map of a number.
func principalMap(t *testing.T, g impl.Group, a impl.Module, m int64) []int64 {
	t.Helper()
	return wanted[[]int64](t, "PrincipalMap")(impl.PrincipalMap(g, a, m))
}

// principalMaps returns all principal maps.
func principalMaps(t *testing.T, g impl.Group, a impl.Module) [][]int64 {
	t.Helper()
	return wanted[[][]int64](t, "PrincipalMaps")(impl.PrincipalMaps(g, a))
}

// crossedClasses returns the maps that tell all classes.
func crossedClasses(t *testing.T, g impl.Group, a impl.Module) [][]int64 {
	t.Helper()
	return wanted[[][]int64](t, "CrossedClasses")(impl.CrossedClasses(g, a))
}

// classOfCrossed returns the map that tells the class of a crossed map.
func classOfCrossed(t *testing.T, g impl.Group, a impl.Module, list []int64) []int64 {
	t.Helper()
	return wanted[[]int64](t, "ClassOfCrossed")(impl.ClassOfCrossed(g, a, list))
}

// kernelOfCrossed returns the kernel of a crossed map.
func kernelOfCrossed(t *testing.T, g impl.Group, a impl.Module, list []int64) []int64 {
	t.Helper()
	return wanted[[]int64](t, "KernelOfCrossed")(impl.KernelOfCrossed(g, a, list))
}

// pairProduct returns the product of two pairs.
func pairProduct(t *testing.T, g impl.Group, a impl.Module, p, q int64) int64 {
	t.Helper()
	return wanted[int64](t, "PairProduct")(impl.PairProduct(g, a, p, q))
}

// complementOf returns the complement of a crossed map.
func complementOf(t *testing.T, g impl.Group, a impl.Module, list []int64) []int64 {
	t.Helper()
	return wanted[[]int64](t, "ComplementOf")(impl.ComplementOf(g, a, list))
}

// isComplement reports whether a list of pairs is a complement.
func isComplement(t *testing.T, g impl.Group, a impl.Module, pairs []int64) bool {
	t.Helper()
	return wanted[bool](t, fmt.Sprint("IsComplement ", a, pairs))(impl.IsComplement(g, a, pairs))
}

// conjugateComplement returns the conjugate of a complement by a number.
func conjugateComplement(t *testing.T, g impl.Group, a impl.Module, pairs []int64, m int64) []int64 {
	t.Helper()
	return wanted[[]int64](t, "ConjugateComplement")(impl.ConjugateComplement(g, a, pairs, m))
}
