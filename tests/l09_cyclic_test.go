package tests

import (
	"slices"
	"testing"

	"loop.example/g01363/impl"
)

// TestWrapsKnown: wraps with values that are easy to find.
func TestWrapsKnown(t *testing.T) {
	cases := []struct {
		c      circleByHand
		x      int64
		values []int64
	}{
		{circleByHand{1, 2, 1}, 1, nil},
		{circleByHand{1, 12, 1}, 11, nil},
		{circleByHand{2, 2, 1}, 1, []int64{1}},
		{circleByHand{2, 4, 3}, 2, []int64{2}},
		{circleByHand{2, 12, 5}, 9, []int64{9}},
		{circleByHand{3, 5, 1}, 4, []int64{0, 4, 4, 4}},
		{circleByHand{4, 5, 2}, 0, []int64{0, 0, 0, 0, 0, 0, 0, 0, 0}},
		{circleByHand{4, 8, 5}, 6, []int64{0, 0, 6, 0, 6, 6, 6, 6, 6}},
	}
	for _, k := range cases {
		if f, code := impl.WrapOf(k.c.n, k.c.m, k.c.u, k.x); code != impl.ErrNone || !equalCochains(f, impl.Cochain{Degree: 2, Values: k.values}) {
			t.Errorf("WrapOf(%v, %d) = %v, %d", k.c, k.x, f, code)
		}
	}
}

// TestLaddersKnown: ladders with values that are easy to find.
func TestLaddersKnown(t *testing.T) {
	cases := []struct {
		c      circleByHand
		x      int64
		values []int64
	}{
		{circleByHand{1, 2, 1}, 0, nil},
		{circleByHand{1, 12, 1}, 0, nil},
		{circleByHand{2, 4, 3}, 3, []int64{3}},
		{circleByHand{2, 4, 1}, 2, []int64{2}},
		{circleByHand{3, 9, 1}, 6, []int64{6, 3}},
		{circleByHand{3, 7, 2}, 1, []int64{1, 3}},
		{circleByHand{4, 5, 2}, 3, []int64{3, 4, 1}},
		{circleByHand{6, 7, 3}, 1, []int64{1, 4, 6, 5, 2}},
		{circleByHand{8, 12, 11}, 5, []int64{5, 0, 5, 0, 5, 0, 5}},
		{circleByHand{8, 8, 1}, 3, []int64{3, 6, 1, 4, 7, 2, 5}},
	}
	for _, k := range cases {
		if f, code := impl.LadderOf(k.c.n, k.c.m, k.c.u, k.x); code != impl.ErrNone || !equalCochains(f, impl.Cochain{Degree: 1, Values: k.values}) {
			t.Errorf("LadderOf(%v, %d) = %v, %d", k.c, k.x, f, code)
		}
	}
}

// checkCyclicCochain reports a cochain of the cyclic group of a circle that is none, is no cocycle, or has not
// the values that are wanted.
func checkCyclicCochain(t *testing.T, what string, c circleByHand, g impl.Group, f, want impl.Cochain) {
	t.Helper()
	a := c.module()
	if is, code := impl.IsModule(g, a); code != impl.ErrNone || !is {
		t.Fatalf("%v is no module of c%d", a, c.n)
	}
	if !equalCochains(f, want) {
		t.Errorf("%s(%v) = %v, not %v", what, c, f, want)
	}
	checkCochainOf(t, what, g, a, want.Degree, f)
	if !isCocycle(t, g, a, f) || !isCocycleByHand(g, a, f) {
		t.Errorf("%s(%v) = %v is no cocycle", what, c, f)
	}
}

// checkCyclicCochains: the cochains of all numbers that are as told are cocycles with the values that are
// wanted, and other numbers have none.
func checkCyclicCochains(t *testing.T, what string, made func(n, m, u, x int64) (impl.Cochain, int64), want func(c circleByHand, g impl.Group, x int64) impl.Cochain, isTold func(c circleByHand, x int64) bool) {
	t.Helper()
	eachCochainCircle(func(c circleByHand) {
		g := c.group(t)
		for x := range c.m {
			if !isTold(c, x) {
				if results := all(made(c.n, c.m, c.u, x)); !failed(results, impl.ErrState) {
					t.Errorf("%s(%v, %d): %v", what, c, x, results)
				}
				continue
			}
			checkCyclicCochain(t, what, c, g, wanted[impl.Cochain](t, what)(made(c.n, c.m, c.u, x)), want(c, g, x))
		}
	})
}

// TestPromise17Wraps: wraps of all numbers that are as told are cocycles of the group and its module.
func TestPromise17Wraps(t *testing.T) {
	checkCyclicCochains(t, "WrapOf", impl.WrapOf, circleByHand.wrap, func(c circleByHand, x int64) bool { return restByHand(c.u*x, c.m) == x })
}

// TestPromise17Ladders: ladders of all numbers that are as told are cocycles of the group and its module.
func TestPromise17Ladders(t *testing.T) {
	checkCyclicCochains(t, "LadderOf", impl.LadderOf, circleByHand.ladder, func(c circleByHand, x int64) bool { return restByHand(c.powersTo(c.n)*x, c.m) == 0 })
}

// TestTateGroupsAreCohomologyGroups: a Tate group of a degree of at least 1 is the cohomology group of the
// cyclic group, and cyclic itself.
func TestTateGroupsAreCohomologyGroups(t *testing.T) {
	eachCochainCircle(func(c circleByHand) {
		g, a := c.group(t), c.module()
		for n := int64(1); n <= 3; n++ {
			if len(cellsByHand(g, n)) > impl.MaxRank {
				continue
			}
			want := []int64{tateOrder(t, c, n)}
			if want[0] == 1 {
				want = nil
			}
			if invariants := invariantsOf(t, g, a, n); !slices.Equal(invariants, want) {
				t.Errorf("%v, %d: the invariants are %v, not %v", c, n, invariants, want)
			}
		}
	})
}

// TestClassesOfWrapsAndLadders: wraps and ladders are cohomologous just if their numbers have the same class in
// the Tate group of their degree. So those of numbers that are nought are bounding.
func TestClassesOfWrapsAndLadders(t *testing.T) {
	eachCochainCircle(func(c circleByHand) {
		g, a := c.group(t), c.module()
		for degree, cochain := range map[int64]func(n, m, u, x int64) (impl.Cochain, int64){1: impl.LadderOf, 2: impl.WrapOf} {
			members, nought := tateMembers(t, c, degree)
			for _, x := range members {
				f := wanted[impl.Cochain](t, "a wrap or a ladder")(cochain(c.n, c.m, c.u, x))
				if isBounding(t, g, a, f) != slices.Contains(nought, x) {
					t.Errorf("%v, %d: the cochain %v of %d is bounding, or not", c, degree, f, x)
				}
				least := tateClass(t, c, degree, x)
				h := wanted[impl.Cochain](t, "a wrap or a ladder")(cochain(c.n, c.m, c.u, least))
				if !areCohomologous(t, g, a, f, h) {
					t.Errorf("%v, %d: the cochains of %d and %d are not cohomologous", c, degree, x, least)
				}
			}
		}
	})
}
