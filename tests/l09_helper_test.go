package tests

import (
	"fmt"
	"math"
	"slices"
	"testing"

	"loop.example/g01363/impl"
)

// circleByHand is a circle.
type circleByHand struct{ n, m, u int64 }

// eachCircle calls a function for all circles.
func eachCircle(call func(c circleByHand)) {
	for m := int64(2); m <= 200; m++ {
		for u := int64(1); u < m; u++ {
			if commonByHand(u, m) != 1 {
				continue
			}
			power := int64(1)
			for n := int64(1); n <= 60; n++ {
				power = power * u % m
				if power == 1 {
					call(circleByHand{n, m, u})
				}
			}
		}
	}
}

// eachSomeCircle calls a function for all circles of small M, and for those of some greater M and some n.
func eachSomeCircle(call func(c circleByHand)) {
	turns, moduli := []int64{1, 2, 8, 9, 12, 30, 59, 60}, []int64{64, 81, 97, 120, 168, 180, 199, 200}
	eachCircle(func(c circleByHand) {
		if c.m <= 24 || slices.Contains(turns, c.n) && slices.Contains(moduli, c.m) {
			call(c)
		}
	})
}

// eachCochainCircle calls a function for all circles that have wraps and ladders.
func eachCochainCircle(call func(c circleByHand)) {
	eachCircle(func(c circleByHand) {
		if c.n <= 8 && c.m <= 12 {
			call(c)
		}
	})
}

// power returns the rest of u^k.
func (c circleByHand) power(k int64) int64 {
	p := int64(1)
	for range k {
		p = p * c.u % c.m
	}
	return p
}

// powersTo returns the rest of the sum of the powers from that of 0 on, and less than that of k.
func (c circleByHand) powersTo(k int64) int64 {
	sum, p := int64(0), int64(1)
	for range k {
		sum += p
		p = p * c.u % c.m
	}
	return sum % c.m
}

// isEven reports whether a number, which may be less than 0, is even.
func isEven(degree int64) bool { return divides(2, max(degree, -degree)) }

// numbersOf returns the numbers of the maps whose kernel and whose image belong to a degree.
func (c circleByHand) numbersOf(degree int64) (int64, int64) {
	if isEven(degree) {
		return c.u - 1, c.powersTo(c.n)
	}
	return c.powersTo(c.n), c.u - 1
}

// members returns the members of a degree, and those that are nought, both ascending, looked for among
// all numbers.
func (c circleByHand) members(degree int64) ([]int64, []int64) {
	of, by := c.numbersOf(degree)
	isImage := make([]bool, c.m)
	for x := range c.m {
		isImage[by*x%c.m] = true
	}
	var kernel, image []int64
	for x := range c.m {
		if of*x%c.m == 0 {
			kernel = append(kernel, x)
		}
		if isImage[x] {
			image = append(image, x)
		}
	}
	return kernel, image
}

// leastOf returns, for each number of a circle, the least one of a list that differs from it by a number of
// another list, modulo M, or -1 if there is none. It is the first one, of the ascending list, from which the
// other list leads there.
func (c circleByHand) leastOf(list, differences []int64) []int64 {
	least := slices.Repeat([]int64{-1}, int(c.m))
	for _, x := range list {
		for _, d := range differences {
			if y := (x + d) % c.m; least[y] < 0 {
				least[y] = x
			}
		}
	}
	return least
}

// module returns the module of the cyclic group of n elements with the unit u^x for each x.
func (c circleByHand) module() impl.Module {
	a := impl.Module{M: c.m}
	for x := range c.n {
		a.Units = append(a.Units, c.power(x))
	}
	return a
}

// group returns the cyclic group of n elements.
func (c circleByHand) group(t *testing.T) impl.Group {
	t.Helper()
	return named(t, fmt.Sprint("c", c.n))
}

// wrap returns the wrap of a number.
func (c circleByHand) wrap(g impl.Group, x int64) impl.Cochain {
	return cochainByHand(g, c.m, 2, func(list []int64) int64 {
		if list[0]+list[1] >= c.n {
			return x
		}
		return 0
	})
}

// ladder returns the ladder of a number.
func (c circleByHand) ladder(g impl.Group, x int64) impl.Cochain {
	return cochainByHand(g, c.m, 1, func(list []int64) int64 { return x * c.powersTo(list[0]) })
}

// tateOrder returns the order of a Tate group.
func tateOrder(t *testing.T, c circleByHand, degree int64) int64 {
	t.Helper()
	order, code := impl.TateOrder(c.n, c.m, c.u, degree)
	if code != impl.ErrNone {
		t.Fatalf("TateOrder(%v, %d) = %d, %d", c, degree, order, code)
	}
	return order
}

// tateMembers returns the members of a degree, and those that are nought.
func tateMembers(t *testing.T, c circleByHand, degree int64) ([]int64, []int64) {
	t.Helper()
	members, nought, code := impl.TateMembers(c.n, c.m, c.u, degree)
	if code != impl.ErrNone {
		t.Fatalf("TateMembers(%v, %d) = %v, %v, %d", c, degree, members, nought, code)
	}
	return members, nought
}

// tateClass returns the least member that differs from a member by one that is nought.
func tateClass(t *testing.T, c circleByHand, degree, x int64) int64 {
	t.Helper()
	least, code := impl.TateClass(c.n, c.m, c.u, degree, x)
	if code != impl.ErrNone {
		t.Fatalf("TateClass(%v, %d, %d) = %d, %d", c, degree, x, least, code)
	}
	return least
}

// reducedCircle returns a reduced circle.
func reducedCircle(t *testing.T, c circleByHand, k int64) circleByHand {
	t.Helper()
	n, m, u, code := impl.ReducedCircle(c.n, c.m, c.u, k)
	if code != impl.ErrNone {
		t.Fatalf("ReducedCircle(%v, %d) = %d, %d, %d, %d", c, k, n, m, u, code)
	}
	return circleByHand{n, m, u}
}

// noCircleNumbers returns numbers that are no n, M, u, x or k of a circle, and no degrees.
func noCircleNumbers() []int64 {
	return []int64{
		-1, -2, -60, -200, -1001, 1001, 1 << 32, -1 << 32, math.MinInt64, math.MinInt64 + 1, math.MinInt64 + 2,
		math.MaxInt64, math.MaxInt64 - 1,
	}
}

// notCircles returns what is no circle, each one different in one number from a circle.
func notCircles() []circleByHand {
	bad := []circleByHand{
		{0, 4, 3}, {-1, 4, 3}, {-2, 4, 3}, {61, 4, 1}, {62, 4, 3}, {120, 4, 3},
		{2, 0, 1}, {2, 0, 0}, {2, 1, 0}, {2, 1, 1}, {1, 1, 1}, {2, -4, 3}, {2, -4, -3}, {2, 201, 200}, {2, 202, 1}, {1, 201, 1},
		{2, 4, 0}, {2, 4, 4}, {2, 4, 5}, {2, 4, 7}, {2, 4, -1}, {2, 2, 0}, {1, 2, 2}, {1, 2, 3}, {1, 5, 6}, {2, 200, 201}, {2, 200, 200},
		// These have a common divisor with M; 4 is its own square modulo 6, and so is 16 modulo 20.
		{2, 4, 2}, {1, 6, 4}, {2, 6, 3}, {60, 6, 2}, {2, 20, 16}, {60, 200, 25},
		// The power of n has another rest.
		{1, 4, 3}, {3, 4, 3}, {59, 4, 3}, {3, 5, 2}, {2, 5, 2}, {1, 5, 2}, {6, 5, 2}, {2, 7, 2}, {4, 7, 2}, {60, 17, 3}, {60, 199, 3},
		{0, 0, 0}, {1, 1, 0}, {0, 2, 1}, {61, 201, 1},
	}
	for _, x := range noCircleNumbers() {
		bad = append(bad, circleByHand{x, 4, 3}, circleByHand{2, x, 3}, circleByHand{2, 4, x}, circleByHand{2, x, x}, circleByHand{x, x, x}, circleByHand{x, x, 1})
	}
	return bad
}

// circleCalls calls all functions of the chapter that ask for nothing but a circle.
func circleCalls(c circleByHand) map[string][]any {
	return map[string][]any{
		"CircleNorm": all(impl.CircleNorm(c.n, c.m, c.u)),
		"HerbrandOf": all(impl.HerbrandOf(c.n, c.m, c.u)),
	}
}

// degreeCallsOf calls all functions of the chapter that ask for a degree alone.
func degreeCallsOf(c circleByHand, degree int64) map[string][]any {
	return map[string][]any{
		"TateOrder":   all(impl.TateOrder(c.n, c.m, c.u, degree)),
		"TateMembers": all(impl.TateMembers(c.n, c.m, c.u, degree)),
	}
}

// tateClassCalls calls TateClass.
func tateClassCalls(c circleByHand, degree, x int64) map[string][]any {
	return map[string][]any{"TateClass": all(impl.TateClass(c.n, c.m, c.u, degree, x))}
}

// cyclicCochainCalls calls all functions of the chapter that make cochains.
func cyclicCochainCalls(c circleByHand, x int64) map[string][]any {
	return map[string][]any{
		"WrapOf":   all(impl.WrapOf(c.n, c.m, c.u, x)),
		"LadderOf": all(impl.LadderOf(c.n, c.m, c.u, x)),
	}
}

// reducedCalls calls ReducedCircle.
func reducedCalls(c circleByHand, k int64) map[string][]any {
	return map[string][]any{"ReducedCircle": all(impl.ReducedCircle(c.n, c.m, c.u, k))}
}

// checkCircleCode reports the functions of the chapter that ask for a circle and do not return a code.
func checkCircleCode(t *testing.T, code int64, c circleByHand, degree, x, k int64) {
	t.Helper()
	what := fmt.Sprint(c, ", ", degree, ", ", x, ", ", k)
	checkCode(t, what, code, circleCalls(c))
	checkCode(t, what, code, degreeCallsOf(c, degree))
	checkCode(t, what, code, tateClassCalls(c, degree, x))
	checkCode(t, what, code, cyclicCochainCalls(c, x))
	checkCode(t, what, code, reducedCalls(c, k))
}
