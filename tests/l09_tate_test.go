package tests

import (
	"slices"
	"testing"

	"loop.example/g01363/impl"
)

// someDegrees are degrees of both parities, the limits and those next to 0 among them.
var someDegrees = []int64{-1000, -999, -2, -1, 0, 1, 2, 3, 500, 999, 1000}

// TestTateExample is the example of the chapter: the order is 2 for all degrees.
func TestTateExample(t *testing.T) {
	for degree := int64(-1000); degree <= 1000; degree++ {
		if order := tateOrder(t, circleByHand{2, 4, 3}, degree); order != 2 {
			t.Errorf("TateOrder(2, 4, 3, %d) = %d", degree, order)
		}
	}
}

// TestTateKnown: circles with members that are easy to find.
func TestTateKnown(t *testing.T) {
	cases := []struct {
		c            circleByHand
		degree, norm int64
		kernel       []int64
		image        []int64
		order        int64
	}{
		// With n = 1 the norm is 1 and the difference 0: all are nought, or 0 alone is a member.
		{circleByHand{1, 5, 1}, 0, 1, []int64{0, 1, 2, 3, 4}, []int64{0, 1, 2, 3, 4}, 1},
		{circleByHand{1, 5, 1}, 1, 1, []int64{0}, []int64{0}, 1},
		{circleByHand{1, 2, 1}, -1000, 1, []int64{0, 1}, []int64{0, 1}, 1},
		{circleByHand{1, 2, 1}, -999, 1, []int64{0}, []int64{0}, 1},
		// The unit 1 has the norm n and the difference 0.
		{circleByHand{4, 6, 1}, 0, 4, []int64{0, 1, 2, 3, 4, 5}, []int64{0, 2, 4}, 2},
		{circleByHand{4, 6, 1}, -1, 4, []int64{0, 3}, []int64{0}, 2},
		{circleByHand{3, 3, 1}, 2, 0, []int64{0, 1, 2}, []int64{0}, 3},
		{circleByHand{3, 3, 1}, 3, 0, []int64{0, 1, 2}, []int64{0}, 3},
		// The unit -1 has the difference -2, and for even n the norm 0.
		{circleByHand{2, 8, 7}, -2, 0, []int64{0, 4}, []int64{0}, 2},
		{circleByHand{2, 8, 7}, 5, 0, []int64{0, 1, 2, 3, 4, 5, 6, 7}, []int64{0, 2, 4, 6}, 2},
		{circleByHand{2, 9, 8}, 1, 0, []int64{0, 1, 2, 3, 4, 5, 6, 7, 8}, []int64{0, 1, 2, 3, 4, 5, 6, 7, 8}, 1},
		{circleByHand{2, 9, 8}, 1000, 0, []int64{0}, []int64{0}, 1},
		// 1 + 3 is 4, and 1 + 5 is 6.
		{circleByHand{2, 8, 3}, 0, 4, []int64{0, 4}, []int64{0, 4}, 1},
		{circleByHand{2, 8, 3}, 1, 4, []int64{0, 2, 4, 6}, []int64{0, 2, 4, 6}, 1},
		{circleByHand{2, 8, 5}, 0, 6, []int64{0, 2, 4, 6}, []int64{0, 2, 4, 6}, 1},
		{circleByHand{4, 8, 5}, 0, 4, []int64{0, 2, 4, 6}, []int64{0, 4}, 2},
		{circleByHand{4, 8, 5}, -1, 4, []int64{0, 2, 4, 6}, []int64{0, 4}, 2},
	}
	for _, k := range cases {
		if norm, code := impl.CircleNorm(k.c.n, k.c.m, k.c.u); norm != k.norm || code != impl.ErrNone {
			t.Errorf("CircleNorm(%v) = %d, %d", k.c, norm, code)
		}
		kernel, image := tateMembers(t, k.c, k.degree)
		if !slices.Equal(kernel, k.kernel) || !slices.Equal(image, k.image) {
			t.Errorf("TateMembers(%v, %d) = %v, %v", k.c, k.degree, kernel, image)
		}
		if order := tateOrder(t, k.c, k.degree); order != k.order {
			t.Errorf("TateOrder(%v, %d) = %d", k.c, k.degree, order)
		}
	}
}

// TestIsCircle looks at all numbers up to the limits and somewhat beyond.
func TestIsCircle(t *testing.T) {
	isOne := map[circleByHand]bool{}
	eachCircle(func(c circleByHand) { isOne[c] = true })
	for n := int64(-2); n <= 63; n++ {
		for m := int64(-2); m <= 203; m++ {
			for u := int64(-2); u <= m+2; u++ {
				if is := impl.IsCircle(n, m, u); is != isOne[circleByHand{n, m, u}] {
					t.Errorf("IsCircle(%d, %d, %d) = %t", n, m, u, is)
				}
			}
		}
	}
	for _, c := range notCircles() {
		if impl.IsCircle(c.n, c.m, c.u) {
			t.Errorf("IsCircle(%v)", c)
		}
	}
}

func TestCircleNorm(t *testing.T) {
	eachCircle(func(c circleByHand) {
		if norm, code := impl.CircleNorm(c.n, c.m, c.u); norm != c.powersTo(c.n) || code != impl.ErrNone {
			t.Errorf("CircleNorm(%v) = %d, %d, not %d", c, norm, code, c.powersTo(c.n))
		}
	})
}

// TestPromise9Orders: the orders of all degrees of one parity are equal, and so are those of both parities.
// They are the number of the members by that of those that are nought, and those of HerbrandOf.
func TestPromise9Orders(t *testing.T) {
	eachCircle(func(c circleByHand) {
		first, second, code := impl.HerbrandOf(c.n, c.m, c.u)
		if code != impl.ErrNone || first != second {
			t.Errorf("HerbrandOf(%v) = %d, %d, %d", c, first, second, code)
		}
		for degree, order := range []int64{first, second} {
			kernel, image := c.members(int64(degree))
			if order*int64(len(image)) != int64(len(kernel)) {
				t.Errorf("HerbrandOf(%v) = %d, %d, but %v and %v are members", c, first, second, kernel, image)
			}
		}
		for _, degree := range someDegrees {
			if order := tateOrder(t, c, degree); order != first {
				t.Errorf("TateOrder(%v, %d) = %d, not %d", c, degree, order, first)
			}
		}
	})
}

// TestPromise9AllDegrees: all degrees of one parity have the same order and the same members.
func TestPromise9AllDegrees(t *testing.T) {
	for _, c := range []circleByHand{{1, 2, 1}, {1, 200, 1}, {2, 8, 7}, {4, 8, 5}, {4, 5, 2}, {6, 36, 5}, {60, 200, 1}, {60, 2, 1}, {20, 200, 3}, {30, 62, 3}} {
		for degree := int64(-1000); degree <= 1000; degree++ {
			kernel, image := c.members(degree)
			members, nought := tateMembers(t, c, degree)
			if !slices.Equal(members, kernel) || !slices.Equal(nought, image) {
				t.Errorf("TateMembers(%v, %d) = %v, %v", c, degree, members, nought)
			}
			if order := tateOrder(t, c, degree); order*int64(len(image)) != int64(len(kernel)) {
				t.Errorf("TateOrder(%v, %d) = %d", c, degree, order)
			}
		}
	}
}

// TestPromise9Members: members are the kernel, and those that are nought the image, both ascending; the
// multiple by n of each member is nought.
func TestPromise9Members(t *testing.T) {
	eachCircle(func(c circleByHand) {
		for _, degree := range []int64{-1000, -1, 0, 1} {
			kernel, image := c.members(degree)
			members, nought := tateMembers(t, c, degree)
			if !slices.Equal(members, kernel) || !slices.Equal(nought, image) {
				t.Errorf("TateMembers(%v, %d) = %v, %v, not %v, %v", c, degree, members, nought, kernel, image)
			}
			isNought := make([]bool, c.m)
			for _, x := range nought {
				isNought[x] = true
			}
			for _, x := range members {
				if !isNought[c.n*x%c.m] {
					t.Errorf("%v, %d: the multiple of %d is not nought", c, degree, x)
				}
			}
		}
	})
}

// TestTateClass: the class of a member is the least one that differs from it by one that is nought, and there
// are as many different ones as the order tells. What is no member has none.
func TestTateClass(t *testing.T) {
	eachCircle(func(c circleByHand) {
		for _, degree := range []int64{0, -1} {
			checkTateClasses(t, c, degree)
		}
	})
	for _, degree := range []int64{-1000, -999, 7, 8, 999, 1000} {
		eachSomeCircle(func(c circleByHand) { checkTateClasses(t, c, degree) })
	}
}

// checkTateClasses asks for the classes of all numbers of a circle.
func checkTateClasses(t *testing.T, c circleByHand, degree int64) {
	t.Helper()
	different := int64(0)
	for x, want := range c.leastOf(c.members(degree)) {
		least, code := impl.TateClass(c.n, c.m, c.u, degree, int64(x))
		if want < 0 {
			if least != 0 || code != impl.ErrState {
				t.Errorf("TateClass(%v, %d, %d) = %d, %d", c, degree, x, least, code)
			}
			continue
		}
		if least != want || code != impl.ErrNone {
			t.Errorf("TateClass(%v, %d, %d) = %d, %d, not %d", c, degree, x, least, code, want)
		}
		if least == int64(x) {
			different++
		}
	}
	if order := tateOrder(t, c, degree); different != order {
		t.Errorf("%v, %d: %d classes, but the order %d", c, degree, different, order)
	}
}

// TestTateClassKnown: classes that are easy to find, at both limits of the numbers.
func TestTateClassKnown(t *testing.T) {
	cases := []struct{ n, m, u, degree, x, least int64 }{
		{1, 5, 1, 0, 4, 0}, {1, 5, 1, 1, 0, 0}, {2, 4, 3, 0, 2, 2}, {2, 4, 3, -1, 3, 1}, {2, 4, 3, -1, 2, 0},
		{4, 6, 1, 2, 5, 1}, {4, 6, 1, 1, 3, 3}, {3, 3, 1, 1, 2, 2}, {4, 8, 5, 0, 6, 2}, {60, 200, 1, 0, 199, 19}, {60, 200, 1, 1, 190, 190},
	}
	for _, k := range cases {
		if least := tateClass(t, circleByHand{k.n, k.m, k.u}, k.degree, k.x); least != k.least {
			t.Errorf("TateClass(%v) = %d", k, least)
		}
	}
}

// TestUnitsOfCircle: the units are all those that make a circle, ascending, 1 being the first one.
func TestUnitsOfCircle(t *testing.T) {
	found := map[[2]int64][]int64{}
	eachCircle(func(c circleByHand) {
		key := [2]int64{c.n, c.m}
		found[key] = append(found[key], c.u)
	})
	for n := int64(1); n <= 60; n++ {
		for m := int64(2); m <= 200; m++ {
			units, code := impl.UnitsOfCircle(n, m)
			if code != impl.ErrNone || !slices.Equal(units, found[[2]int64{n, m}]) || units[0] != 1 {
				t.Errorf("UnitsOfCircle(%d, %d) = %v, %d", n, m, units, code)
			}
		}
	}
	for n, want := range map[int64][]int64{1: {1}, 2: {1, 4}, 4: {1, 2, 3, 4}, 3: {1}, 60: {1, 2, 3, 4}} {
		if units, code := impl.UnitsOfCircle(n, 5); code != impl.ErrNone || !slices.Equal(units, want) {
			t.Errorf("UnitsOfCircle(%d, 5) = %v, %d", n, units, code)
		}
	}
}

// TestReducedCircle: the circle of each divisor of n is a circle, and others have none. With k = 1 it is the
// same one, with k = n that of one turn.
func TestReducedCircle(t *testing.T) {
	eachCircle(func(c circleByHand) {
		for k := int64(1); k <= c.n; k++ {
			if !divides(k, c.n) {
				if results := all(impl.ReducedCircle(c.n, c.m, c.u, k)); !failed(results, impl.ErrRange) {
					t.Errorf("ReducedCircle(%v, %d): %v", c, k, results)
				}
				continue
			}
			r := reducedCircle(t, c, k)
			if r.n*k != c.n || r.m != c.m || r.u != c.power(k) || !impl.IsCircle(r.n, r.m, r.u) {
				t.Errorf("ReducedCircle(%v, %d) = %v", c, k, r)
			}
		}
		if same, one := reducedCircle(t, c, 1), reducedCircle(t, c, c.n); same != c || one != (circleByHand{1, c.m, 1}) {
			t.Errorf("ReducedCircle(%v) = %v for 1, %v for %d", c, same, one, c.n)
		}
	})
}

// TestReducedTwice: to reduce by two numbers, one after the other, reduces by their product, and norms of the
// parts make that of the whole.
func TestReducedTwice(t *testing.T) {
	eachSomeCircle(func(c circleByHand) {
		whole, _ := impl.CircleNorm(c.n, c.m, c.u)
		for k := int64(1); k <= c.n; k++ {
			if !divides(k, c.n) {
				continue
			}
			r := reducedCircle(t, c, k)
			if part, _ := impl.CircleNorm(r.n, r.m, r.u); part*c.powersTo(k)%c.m != whole {
				t.Errorf("the norm of %v is %d, that of %v %d", c, whole, r, part)
			}
			for l := int64(1); l <= r.n; l++ {
				if divides(l, r.n) && reducedCircle(t, r, l) != reducedCircle(t, c, k*l) {
					t.Errorf("ReducedCircle(%v, %d) is not reduced by %d to that of %d", c, k, l, k*l)
				}
			}
		}
	})
}
