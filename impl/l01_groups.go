package impl

import (
	"cmp"
	"iter"
	"math/bits"
	"slices"
	"strings"
)

const (
	ErrNone = iota
	ErrInvalid
	ErrRange
	ErrLimit
	ErrNotFound
	ErrState
	ErrSyntax
)
const MaxOrder = 8

// maxExponent is the greatest exponent of PowerOf, less than 0 as well as greater.
const maxExponent = 1000000

type Group struct {
	Table [][]int64
}

// elementSet is a set of elements of one group: it has the bit a for each element a.
type elementSet uint64

// setOf returns the set of all elements of a list.
func setOf(elements []int64) elementSet {
	s := elementSet(0)
	for _, a := range elements {
		s = s.with(a)
	}
	return s
}

// with returns the set with one more element.
func (s elementSet) with(a int64) elementSet { return s | 1<<a }

// has reports whether the set has an element.
func (s elementSet) has(a int64) bool { return s>>a&1 == 1 }

// size returns the number of elements of the set.
func (s elementSet) size() int64 { return int64(bits.OnesCount64(uint64(s))) }

// all ranges over the elements of the set, ascending.
func (s elementSet) all() iter.Seq[int64] {
	return func(yield func(int64) bool) {
		for left := uint64(s); left != 0; left &= left - 1 {
			if !yield(int64(bits.TrailingZeros64(left))) {
				return
			}
		}
	}
}

// list returns the elements of the set, ascending.
func (s elementSet) list() []int64 { return slices.Collect(s.all()) }

// groupOrder returns the number of elements of a group.
func groupOrder(g Group) int64 { return int64(len(g.Table)) }

// elementsOf ranges over the elements of a group, ascending.
func elementsOf(g Group) iter.Seq[int64] {
	return func(yield func(int64) bool) {
		for a := range groupOrder(g) {
			if !yield(a) {
				return
			}
		}
	}
}

// newTable returns n rows of n zeros. The rows are parts of one list, and each one is closed at its
// end, so that appending to a row cannot write into the next one.
func newTable(n int64) [][]int64 {
	cells := make([]int64, n*n)
	rows := make([][]int64, n)
	for i := range n {
		rows[i] = cells[i*n : (i+1)*n : (i+1)*n]
	}
	return rows
}

// groupWith returns the group of n elements with the products that a function tells.
func groupWith(n int64, product func(a, b int64) int64) Group {
	g := Group{newTable(n)}
	for a := range elementsOf(g) {
		for b := range elementsOf(g) {
			g.Table[a][b] = product(a, b)
		}
	}
	return g
}

// restOf returns the rest of x by m in 0..m - 1, also for x less than 0.
func restOf(x, m int64) int64 {
	r := x % m
	if r < 0 {
		r += m
	}
	return r
}

// isTable reports whether a table is a square of a permitted size with numbers of its rows.
func isTable(table [][]int64) bool {
	n := int64(len(table))
	if n < 1 || n > MaxOrder {
		return false
	}
	for _, row := range table {
		if int64(len(row)) != n {
			return false
		}
		for _, c := range row {
			if c < 0 || c >= n {
				return false
			}
		}
	}
	return true
}

// keepsElements reports whether 0 a and a 0 are a for all elements a.
func keepsElements(g Group) bool {
	for a := range elementsOf(g) {
		if g.Table[0][a] != a || g.Table[a][0] != a {
			return false
		}
	}
	return true
}

// ignoresBrackets reports whether products do not depend on brackets.
func ignoresBrackets(g Group) bool {
	for a := range elementsOf(g) {
		for b := range elementsOf(g) {
			for c := range elementsOf(g) {
				if g.Table[g.Table[a][b]][c] != g.Table[a][g.Table[b][c]] {
					return false
				}
			}
		}
	}
	return true
}

// hasInverses reports whether each element has an inverse. It looks at the first 0 of a row alone:
// where products do not depend on brackets, a row of an element with an inverse has no other one.
func hasInverses(g Group) bool {
	for a := range elementsOf(g) {
		b := slices.Index(g.Table[a], 0)
		if b < 0 || g.Table[b][a] != 0 {
			return false
		}
	}
	return true
}

// IsGroup reports whether g is a group.
func IsGroup(g Group) bool {
	return isTable(g.Table) && keepsElements(g) && ignoresBrackets(g) && hasInverses(g)
}

// isElement reports whether a number is an element of a group.
func isElement(g Group, a int64) bool { return a >= 0 && a < groupOrder(g) }

// areBelow reports whether all numbers of a list are in 0..m - 1.
func areBelow(m int64, list []int64) bool {
	for _, x := range list {
		if x < 0 || x >= m {
			return false
		}
	}
	return true
}

// isElementList reports whether all numbers of a list are elements of a group.
func isElementList(g Group, list []int64) bool { return areBelow(groupOrder(g), list) }

// isElementSet reports whether a list is an ascending list of different elements of a group.
func isElementSet(g Group, list []int64) bool {
	for i, a := range list {
		if !isElement(g, a) || i > 0 && list[i-1] >= a {
			return false
		}
	}
	return true
}

// ProductOf returns the product a b, and ErrNone.
func ProductOf(g Group, a int64, b int64) (int64, int64) {
	if !IsGroup(g) {
		return 0, ErrInvalid
	}
	if !isElement(g, a) || !isElement(g, b) {
		return 0, ErrRange
	}
	return g.Table[a][b], ErrNone
}

// inverseOf returns the inverse of an element.
func inverseOf(g Group, a int64) int64 { return int64(slices.Index(g.Table[a], 0)) }

// conjugateOf returns c a c', with c' as the inverse of c.
func conjugateOf(g Group, a, c int64) int64 { return g.Table[g.Table[c][a]][inverseOf(g, c)] }

// powerOf returns the power of a and k. The order of a divides that of the group, so that the rest
// of k by the latter has the same power, also for k less than 0.
func powerOf(g Group, a, k int64) int64 {
	p := int64(0)
	for range restOf(k, groupOrder(g)) {
		p = g.Table[p][a]
	}
	return p
}

// PowerOf returns the power of a and k, in -1000000..1000000, and ErrNone.
func PowerOf(g Group, a int64, k int64) (int64, int64) {
	if !IsGroup(g) {
		return 0, ErrInvalid
	}
	if !isElement(g, a) || k < -maxExponent || k > maxExponent {
		return 0, ErrRange
	}
	return powerOf(g, a, k), ErrNone
}

// elementOrder returns the order of an element.
func elementOrder(g Group, a int64) int64 {
	k := int64(1)
	for p := a; p != 0; p = g.Table[p][a] {
		k++
	}
	return k
}

// elementOrders returns the orders of all elements.
func elementOrders(g Group) []int64 {
	orders := make([]int64, groupOrder(g))
	for a := range elementsOf(g) {
		orders[a] = elementOrder(g, a)
	}
	return orders
}

// OrdersOf returns the orders of all elements, and ErrNone.
func OrdersOf(g Group) ([]int64, int64) {
	if !IsGroup(g) {
		return nil, ErrInvalid
	}
	return elementOrders(g), ErrNone
}

// centreSet returns the set of all elements a with a b = b a for all b.
func centreSet(g Group) elementSet {
	s := elementSet(0)
	for a := range elementsOf(g) {
		if commutesWithAll(g, a) {
			s = s.with(a)
		}
	}
	return s
}

// commutesWithAll reports whether a b = b a for all b.
func commutesWithAll(g Group, a int64) bool {
	for b := range elementsOf(g) {
		if g.Table[a][b] != g.Table[b][a] {
			return false
		}
	}
	return true
}

// IsAbelian reports whether a b is b a for all a and b, and returns ErrNone.
func IsAbelian(g Group) (bool, int64) {
	if !IsGroup(g) {
		return false, ErrInvalid
	}
	return centreSet(g).size() == groupOrder(g), ErrNone
}

// CentreOf returns the centre, and ErrNone.
func CentreOf(g Group) ([]int64, int64) {
	if !IsGroup(g) {
		return nil, ErrInvalid
	}
	return centreSet(g).list(), ErrNone
}

// withProducts returns a set with all products of its elements added.
func withProducts(g Group, s elementSet) elementSet {
	more := s
	for a := range s.all() {
		for b := range s.all() {
			more = more.with(g.Table[a][b])
		}
	}
	return more
}

// subgroupMadeBy returns the least subgroup that has all elements of a set.
func subgroupMadeBy(g Group, s elementSet) elementSet {
	s = s.with(0)
	for {
		more := withProducts(g, s)
		if more == s {
			return s
		}
		s = more
	}
}

// isSubgroup reports whether a set is a subgroup.
func isSubgroup(g Group, s elementSet) bool { return s.has(0) && withProducts(g, s) == s }

// SubgroupOf returns the subgroup made by a set of elements, and ErrNone.
func SubgroupOf(g Group, elements []int64) ([]int64, int64) {
	if !IsGroup(g) {
		return nil, ErrInvalid
	}
	if !isElementSet(g, elements) {
		return nil, ErrRange
	}
	return subgroupMadeBy(g, setOf(elements)).list(), ErrNone
}

// compareSubgroups compares numbers of elements first, and then lists of elements.
func compareSubgroups(a, b []int64) int {
	return cmp.Or(cmp.Compare(len(a), len(b)), slices.Compare(a, b))
}

// SubgroupsOf returns all subgroups, in order, and ErrNone.
func SubgroupsOf(g Group) ([][]int64, int64) {
	if !IsGroup(g) {
		return nil, ErrInvalid
	}
	var subgroups [][]int64
	for s := range elementSet(1) << groupOrder(g) {
		if isSubgroup(g, s) {
			subgroups = append(subgroups, s.list())
		}
	}
	slices.SortFunc(subgroups, compareSubgroups)
	return subgroups, ErrNone
}

// isNormalSubgroup reports whether a set is a normal subgroup.
func isNormalSubgroup(g Group, s elementSet) bool {
	if !isSubgroup(g, s) {
		return false
	}
	for b := range s.all() {
		for a := range elementsOf(g) {
			if !s.has(conjugateOf(g, b, a)) {
				return false
			}
		}
	}
	return true
}

// IsNormal reports whether a set is a normal subgroup, and returns ErrNone. Errors: ErrState if it
// is no subgroup.
func IsNormal(g Group, elements []int64) (bool, int64) {
	if !IsGroup(g) {
		return false, ErrInvalid
	}
	if !isElementSet(g, elements) {
		return false, ErrRange
	}
	s := setOf(elements)
	if !isSubgroup(g, s) {
		return false, ErrState
	}
	return isNormalSubgroup(g, s), ErrNone
}

// cosetsOf returns the number of the coset of each element, and the least element of each coset.
func cosetsOf(g Group, s elementSet) (numbers []int64, least []int64) {
	numbers = make([]int64, groupOrder(g))
	seen := elementSet(0)
	for a := range elementsOf(g) {
		if seen.has(a) {
			continue
		}
		for b := range s.all() {
			c := g.Table[a][b]
			seen = seen.with(c)
			numbers[c] = int64(len(least))
		}
		least = append(least, a)
	}
	return numbers, least
}

// QuotientOf returns the quotient by a normal subgroup, for each element the number of its coset,
// and ErrNone. Errors: ErrState if the set is no normal subgroup.
func QuotientOf(g Group, elements []int64) (Group, []int64, int64) {
	if !IsGroup(g) {
		return Group{}, nil, ErrInvalid
	}
	if !isElementSet(g, elements) {
		return Group{}, nil, ErrRange
	}
	s := setOf(elements)
	if !isNormalSubgroup(g, s) {
		return Group{}, nil, ErrState
	}
	numbers, least := cosetsOf(g, s)
	quotient := groupWith(int64(len(least)), func(i, j int64) int64 {
		return numbers[g.Table[least[i]][least[j]]]
	})
	return quotient, numbers, ErrNone
}

// classSet returns the set of all elements that are conjugate to a.
func classSet(g Group, a int64) elementSet {
	s := elementSet(0)
	for c := range elementsOf(g) {
		s = s.with(conjugateOf(g, a, c))
	}
	return s
}

// ClassesOf returns the classes, in order, and ErrNone.
func ClassesOf(g Group) ([][]int64, int64) {
	if !IsGroup(g) {
		return nil, ErrInvalid
	}
	var classes [][]int64
	seen := elementSet(0)
	for a := range elementsOf(g) {
		if seen.has(a) {
			continue
		}
		class := classSet(g, a)
		seen |= class
		classes = append(classes, class.list())
	}
	return classes, ErrNone
}

// DerivedOf returns the derived subgroup, and ErrNone.
func DerivedOf(g Group) ([]int64, int64) {
	if !IsGroup(g) {
		return nil, ErrInvalid
	}
	s := elementSet(0)
	for a := range elementsOf(g) {
		for b := range elementsOf(g) {
			s = s.with(g.Table[conjugateOf(g, b, a)][inverseOf(g, b)])
		}
	}
	return subgroupMadeBy(g, s).list(), ErrNone
}

// DirectProduct returns the direct product, and ErrNone. Errors: ErrLimit if it would have more
// than MaxOrder elements.
func DirectProduct(g Group, h Group) (Group, int64) {
	if !IsGroup(g) || !IsGroup(h) {
		return Group{}, ErrInvalid
	}
	n, m := groupOrder(g), groupOrder(h)
	if n*m > MaxOrder {
		return Group{}, ErrLimit
	}
	return groupWith(n*m, func(a, b int64) int64 {
		return m*g.Table[a/m][b/m] + h.Table[a%m][b%m]
	}), ErrNone
}

// target is what the elements of a group are led to: some values, ascending, and their products.
type target struct {
	values  []int64
	product func(x, y int64) int64
}

// groupTarget returns the target with the elements of a group.
func groupTarget(h Group) target {
	return target{slices.Collect(elementsOf(h)), func(x, y int64) int64 { return h.Table[x][y] }}
}

// keepsProducts reports whether the images of the first elements of g agree with all products of
// these that are among them.
func keepsProducts(g Group, to target, images []int64) bool {
	for a, x := range images {
		for b, y := range images {
			c := g.Table[a][b]
			if c < int64(len(images)) && images[c] != to.product(x, y) {
				return false
			}
		}
	}
	return true
}

// isImageList reports whether a list has an element of h for each element of g.
func isImageList(g, h Group, images []int64) bool {
	return int64(len(images)) == groupOrder(g) && isElementList(h, images)
}

// IsHomomorphism reports whether a list of N elements of h, N being the order of g, is a
// homomorphism, and returns ErrNone.
func IsHomomorphism(g Group, h Group, images []int64) (bool, int64) {
	if !IsGroup(g) || !IsGroup(h) {
		return false, ErrInvalid
	}
	if !isImageList(g, h, images) {
		return false, ErrRange
	}
	return keepsProducts(g, groupTarget(h), images), ErrNone
}

// homomorphisms ranges over all homomorphisms of g to a target, in lexicographic order. Each one is
// a list of its own.
func homomorphisms(g Group, to target) iter.Seq[[]int64] {
	return func(yield func([]int64) bool) {
		continueImages(g, to, nil, yield)
	}
}

// continueImages yields all homomorphisms that begin with some images, and reports whether more are
// wanted.
func continueImages(g Group, to target, images []int64, yield func([]int64) bool) bool {
	if int64(len(images)) == groupOrder(g) {
		return yield(images)
	}
	for _, c := range to.values {
		longer := append(slices.Clone(images), c)
		if keepsProducts(g, to, longer) && !continueImages(g, to, longer, yield) {
			return false
		}
	}
	return true
}

// HomomorphismsOf returns all homomorphisms of g to h, in lexicographic order, and ErrNone.
func HomomorphismsOf(g Group, h Group) ([][]int64, int64) {
	if !IsGroup(g) || !IsGroup(h) {
		return nil, ErrInvalid
	}
	return slices.Collect(homomorphisms(g, groupTarget(h))), ErrNone
}

// FindIsomorphism returns the lexicographically least isomorphism of g to h, and ErrNone. Errors:
// ErrNotFound if there is none.
func FindIsomorphism(g Group, h Group) ([]int64, int64) {
	if !IsGroup(g) || !IsGroup(h) {
		return nil, ErrInvalid
	}
	if groupOrder(g) != groupOrder(h) {
		return nil, ErrNotFound
	}
	for images := range homomorphisms(g, groupTarget(h)) {
		if setOf(images).size() == groupOrder(h) {
			return images, ErrNone
		}
	}
	return nil, ErrNotFound
}

// isRenumbering reports whether a list has all elements of a group, and begins with 0.
func isRenumbering(g Group, p []int64) bool {
	return isImageList(g, g, p) && p[0] == 0 && setOf(p).size() == groupOrder(g)
}

// RenumberGroup returns g renumbered by p, and ErrNone.
func RenumberGroup(g Group, p []int64) (Group, int64) {
	if !IsGroup(g) {
		return Group{}, ErrInvalid
	}
	if !isRenumbering(g, p) {
		return Group{}, ErrRange
	}
	renumbered := Group{newTable(groupOrder(g))}
	for a := range elementsOf(g) {
		for b := range elementsOf(g) {
			renumbered.Table[p[a]][p[b]] = p[g.Table[a][b]]
		}
	}
	return renumbered, ErrNone
}

// groupPlan tells a group by its order and its products.
type groupPlan struct {
	order   int64
	product func(a, b int64) int64
}

// group returns the group that the plan tells.
func (p groupPlan) group() Group { return groupWith(p.order, p.product) }

// cyclicPlan returns the plan of the numbers modulo n with their sums.
func cyclicPlan(n int64) groupPlan {
	return groupPlan{n, func(a, b int64) int64 { return (a + b) % n }}
}

// digitsPlan returns the plan of n numbers, where products tell the digits in base 2 that differ.
func digitsPlan(n int64) groupPlan {
	return groupPlan{n, func(a, b int64) int64 { return a ^ b }}
}

// pairsPlan returns the plan of the pairs n x + y. A second factor with x = 1 multiplies the first y
// by turn, and two factors with x = 1 add extra to y.
func pairsPlan(n, turn, extra int64) groupPlan {
	return groupPlan{2 * n, func(a, b int64) int64 {
		y := a % n
		if b/n == 1 {
			y *= turn
		}
		y += b % n
		if a/n == 1 && b/n == 1 {
			y += extra
		}
		return n*((a/n+b/n)%2) + restOf(y, n)
	}}
}

// groupPlans returns the plans of all groups with names.
func groupPlans() map[string]groupPlan {
	return map[string]groupPlan{
		"c1":         cyclicPlan(1),
		"c2":         cyclicPlan(2),
		"c3":         cyclicPlan(3),
		"c4":         cyclicPlan(4),
		"c5":         cyclicPlan(5),
		"c6":         cyclicPlan(6),
		"c7":         cyclicPlan(7),
		"c8":         cyclicPlan(8),
		"klein":      digitsPlan(4),
		"cube":       digitsPlan(8),
		"c2c4":       pairsPlan(4, 1, 0),
		"s3":         pairsPlan(3, -1, 0),
		"dihedral":   pairsPlan(4, -1, 0),
		"quaternion": pairsPlan(4, -1, 2),
	}
}

// NamedGroup returns the group with a name, and ErrNone. Errors: ErrNotFound if there is none.
func NamedGroup(name string) (Group, int64) {
	plan, found := groupPlans()[name]
	if !found {
		return Group{}, ErrNotFound
	}
	return plan.group(), ErrNone
}

// GroupText returns the text of g, and ErrNone.
func GroupText(g Group) (string, int64) {
	if !IsGroup(g) {
		return "", ErrInvalid
	}
	var text []byte
	for a := range elementsOf(g) {
		if a > 0 {
			text = append(text, ',')
		}
		for _, c := range g.Table[a] {
			text = append(text, '0'+byte(c))
		}
	}
	return string(text), ErrNone
}

// tableFrom returns the table with some rows of digits, and whether they are as many as each one
// has digits. What the numbers are is left to IsGroup.
func tableFrom(rows []string) ([][]int64, bool) {
	table := newTable(int64(len(rows)))
	for i, row := range rows {
		if len(row) != len(rows) {
			return nil, false
		}
		for j := range len(row) {
			table[i][j] = int64(row[j]) - '0'
		}
	}
	return table, true
}

// ParseGroup returns the group with a text, and ErrNone. Errors: ErrSyntax if there is none. (No
// other errors are returned.)
func ParseGroup(text string) (Group, int64) {
	// One row more than a group can have is enough to see that there are too many.
	table, square := tableFrom(strings.SplitN(text, ",", MaxOrder+1))
	if !square || !IsGroup(Group{table}) {
		return Group{}, ErrSyntax
	}
	return Group{table}, ErrNone
}
