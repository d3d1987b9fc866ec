package tests

import (
	"fmt"
	"math"
	"slices"
	"strings"
	"testing"

	"loop.example/g01363/impl"
)

// TestPromise3Texts: cochains come back from their texts, which are all different.
func TestPromise3Texts(t *testing.T) {
	eachCochain(t, 3, func(name string, g impl.Group, a impl.Module, f impl.Cochain) {
		text, code := impl.CochainText(g, a, f)
		if text != textByHand(f) || code != impl.ErrNone {
			t.Errorf("CochainText(%s, %v, %v) = %q, %d", name, a, f, text, code)
		}
		if h, code := impl.ParseCochain(g, a, text); !equalCochains(f, h) || code != impl.ErrNone {
			t.Errorf("ParseCochain(%s, %v, %q) = %v, %d", name, a, text, h, code)
		}
	})
}

func TestCochainTextExamples(t *testing.T) {
	c1, c2, cube := named(t, "c1"), named(t, "c2"), named(t, "cube")
	one, twelve := impl.Module{M: 12, Units: []int64{1}}, impl.Module{M: 12, Units: []int64{1, 11}}
	eight, _ := impl.TrivialModule(cube, 12)
	rows := []struct {
		g    impl.Group
		a    impl.Module
		f    impl.Cochain
		want string
	}{
		{c1, one, impl.Cochain{Values: []int64{11}}, "0:11"},
		{c1, one, impl.Cochain{Degree: 1}, "1:"},
		{c1, one, impl.Cochain{Degree: 2}, "2:"},
		{c1, one, impl.Cochain{Degree: 3}, "3:"},
		{c2, twelve, impl.Cochain{Values: []int64{0}}, "0:0"},
		{c2, twelve, impl.Cochain{Degree: 3, Values: []int64{10}}, "3:10"},
		{cube, eight, impl.Cochain{Degree: 1, Values: []int64{0, 1, 2, 9, 10, 11, 0}}, "1:0,1,2,9,10,11,0"},
		{cube, eight, impl.Cochain{Degree: 3, Values: slices.Repeat([]int64{11}, 343)}, "3:" + strings.Repeat("11,", 342) + "11"},
	}
	for _, r := range rows {
		if text, code := impl.CochainText(r.g, r.a, r.f); text != r.want || code != impl.ErrNone {
			t.Errorf("CochainText(%v) = %q, %d", r.f, text, code)
		}
		if f, code := impl.ParseCochain(r.g, r.a, r.want); !equalCochains(f, r.f) || code != impl.ErrNone {
			t.Errorf("ParseCochain(%q) = %v, %d", r.want, f, code)
		}
	}
}

// TestParseCochainWithOneChange leaves out, adds and replaces single characters of texts. What is
// still parsed is a cochain with just this text.
func TestParseCochainWithOneChange(t *testing.T) {
	for _, name := range []string{"c1", "c2", "c3", "klein"} {
		g := named(t, name)
		for _, m := range []int64{2, 12} {
			a := modulesOf(t, g, m)[0]
			for n := range int64(3) {
				text := textByHand(sampleCochain(g, a, n, 8))
				for i := range len(text) + 1 {
					for _, c := range []string{"", "0", "1", "3", "9", ",", ":", "-", "+", " ", "\n", "\x00", "\xff", "a", "_", ";"} {
						changed := []string{text[:i] + c + text[i:]}
						if i < len(text) {
							changed = append(changed, text[:i]+c+text[i+1:])
						}
						for _, s := range changed {
							checkParsed(t, g, a, s)
						}
					}
				}
			}
		}
	}
}

// checkParsed parses a text: it has to be that of the result, or to give ErrSyntax if it is no text
// of a cochain.
func checkParsed(t *testing.T, g impl.Group, a impl.Module, s string) {
	t.Helper()
	want, found := parsedByHand(g, a, s)
	f, code := impl.ParseCochain(g, a, s)
	if found && (!equalCochains(f, want) || code != impl.ErrNone) || !found && !failed(all(f, code), impl.ErrSyntax) {
		t.Fatalf("ParseCochain(%v, %v, %q) = %v, %d", g, a, s, f, code)
	}
}

// parsedByHand returns the cochain with a text: that with some of the numbers of it, if they make just
// this text.
func parsedByHand(g impl.Group, a impl.Module, s string) (impl.Cochain, bool) {
	for n := range int64(4) {
		f := impl.Cochain{Degree: n}
		count := len(cellsByHand(g, n))
		for _, part := range strings.FieldsFunc(strings.TrimPrefix(s, fmt.Sprint(n)), func(c rune) bool { return c < '0' || c > '9' }) {
			x := int64(0)
			fmt.Sscan(part, &x)
			f.Values = append(f.Values, x)
		}
		tooGreat := slices.ContainsFunc(f.Values, func(x int64) bool { return x < 0 || x >= a.M })
		if len(f.Values) == count && !tooGreat && textByHand(f) == s {
			return f, true
		}
	}
	return impl.Cochain{}, false
}

func TestParseCochainErrors(t *testing.T) {
	c3, a := named(t, "c3"), impl.Module{M: 12, Units: []int64{1, 1, 1}}
	bad := []string{
		"", ":", ",", "0", "1", "2", "3", "4", "0:", "1:", "2:", "3:", "4:", ":1,2", ":1", "1:1", "1:1,", "1:,1", "1:,", "1:1,2,", "1:,1,2", "1:1,,2", "1:1,2,3", "1:1,2,3,4", "0:1,2", "0:1,", "0:,1", "0:,",
		"2:1,2,3", "2:1,2,3,4,5", "2:1,2", "3:1,2,3,4", "3:1,2,3,4,5,6,7", "3:1,2,3,4,5,6,7,8,9", "4:1,2,3,4,5,6,7,8", "4:" + strings.Repeat("1,", 15) + "1", "5:1,2", "9:1,2", "10:1,2",
		"1:1:2", "1,1,2", "1;1,2", "1:1;2", "1:12", "1::1,2", "1:1,2:", "11,2", " 1:1,2", "1 :1,2", "1: 1,2", "1:1, 2", "1:1 ,2", "1:1,2 ", "1:1,2\n", "1:1,2\x00", "\ufeff1:1,2", "0: ", "0:1 ", " 0:1",
		"01:1,2", "00:1", "1:01,2", "1:1,02", "1:1,00", "0:00", "0:01", "0:000000000", "+1:1,2", "-1:1,2", "-0:1", "+0:1", "0:-0", "0:+0", "1:+1,2", "1:1,-2", "1:1,+2", "1:1,-1", "1:1,2.0", "1:1,2e0", "0x1:1,2", "1:1,0x2", "1:1,1_0", "\u0661:1,2", "1:1,\u0662",
		"1:12,1", "1:1,12", "1:1,13", "1:100,1", "0:12", "0:-1", "2:1,2,3,12", "0:999999999", "0:1000000000",
		"18446744073709551617:1,2", "4294967297:1,2", "1:18446744073709551617,2", "1:1,4294967298", "1000000000000000000000000000000:1", "0:1000000000000000000000000000000", "0:18446744073709551616", "18446744073709551616:1",
		"a:b,c", "cochain", "3:1,1,1", "\xff\xfe", strings.Repeat(",", 1000000), strings.Repeat(":", 1000000), "3:" + strings.Repeat("1,", 1000000), "2:1,2,3," + strings.Repeat("0", 1000000) + "4", strings.Repeat("9", 1000000) + ":1", "0:" + strings.Repeat("1", 1000000),
	}
	for _, s := range bad {
		if f, code := impl.ParseCochain(c3, a, s); !failed(all(f, code), impl.ErrSyntax) {
			t.Errorf("ParseCochain(c3, %.100q) = %v, %d", s, f, code)
		}
	}
	for s, want := range map[string]impl.Cochain{"0:11": {Values: []int64{11}}, "1:0,10": {Degree: 1, Values: []int64{0, 10}}, "2:1,2,3,4": {Degree: 2, Values: []int64{1, 2, 3, 4}}} {
		if f, code := impl.ParseCochain(c3, a, s); !equalCochains(f, want) || code != impl.ErrNone {
			t.Errorf("ParseCochain(c3, %q) = %v, %d", s, f, code)
		}
	}
	c1, one := named(t, "c1"), impl.Module{M: 12, Units: []int64{1}}
	for _, s := range []string{"", ":", "0", "0:", "1", "2", "3", "4:", "1:0", "1:,", "1: ", "2::", "3:0", "01:", "+1:", "-1:", " 1:", "10:", "0:0,0", "1:\n"} {
		if f, code := impl.ParseCochain(c1, one, s); !failed(all(f, code), impl.ErrSyntax) {
			t.Errorf("ParseCochain(c1, %q) = %v, %d", s, f, code)
		}
	}
}

// TestParseCochainOfManyValues: the greatest number of values, and what is longer or shorter.
func TestParseCochainOfManyValues(t *testing.T) {
	for _, name := range []string{"c8", "cube", "quaternion"} {
		g := named(t, name)
		a := modulesOf(t, g, 12)[0]
		text := textByHand(sampleCochain(g, a, 3, 1))
		if f, code := impl.ParseCochain(g, a, text); len(f.Values) != 343 || code != impl.ErrNone {
			t.Errorf("ParseCochain(%s) of 343 values = %v, %d", name, f, code)
		}
		for _, s := range []string{text + ",", text + ",1", text + ",0", text + ",1,1", text + "," + text, text[:strings.LastIndex(text, ",")], "2" + text[1:], "4" + text[1:]} {
			if !failed(all(impl.ParseCochain(g, a, s)), impl.ErrSyntax) {
				t.Errorf("ParseCochain(%s, %q) has no cochain", name, s)
			}
		}
	}
}

// cochainCalls calls all functions of the chapter that ask for a cochain, beside numbers and lists
// that are out of range: ErrInvalid is asked first. The module good is one of g.
func cochainCalls(t *testing.T, g impl.Group, a, good impl.Module, f impl.Cochain) map[string][]any {
	t.Helper()
	c2 := named(t, "c2")
	zero, _ := impl.ZeroCochain(g, good, 3)
	return map[string][]any{
		"ValueOf":                   all(impl.ValueOf(g, a, f, []int64{-1, 99, 0, 0, 0})),
		"ValueOf, no list":          all(impl.ValueOf(g, a, f, nil)),
		"AddCochains, first":        all(impl.AddCochains(g, a, f, zero, 1001)),
		"AddCochains, second":       all(impl.AddCochains(g, a, zero, f, math.MinInt64)),
		"AddCochains, both":         all(impl.AddCochains(g, a, f, f, 0)),
		"BoundaryOf":                all(impl.BoundaryOf(g, a, f)),
		"IsCocycle":                 all(impl.IsCocycle(g, a, f)),
		"ProductOfCochains, first":  all(impl.ProductOfCochains(g, a, good, f, zero)),
		"ProductOfCochains, second": all(impl.ProductOfCochains(g, good, a, zero, f)),
		"PullBack":                  all(impl.PullBack(c2, g, a, []int64{0, -1, 0}, f)),
		"PullBack, state":           all(impl.PullBack(c2, g, a, []int64{1, 1}, f)),
		"MoveCochain":               all(impl.MoveCochain(g, a, f, -1)),
		"CochainText":               all(impl.CochainText(g, a, f)),
	}
}

// checkInvalid reports the calls that do not return ErrInvalid.
func checkInvalid(t *testing.T, name string, calls map[string][]any) {
	t.Helper()
	for call, results := range calls {
		if !failed(results, impl.ErrInvalid) {
			t.Errorf("%s of %s: %v", call, name, results)
		}
	}
}

// TestInvalidCochains asks each function for what is no cochain of c3, or no module of c4.
func TestInvalidCochains(t *testing.T) {
	c3, a := named(t, "c3"), impl.Module{M: 4, Units: []int64{1, 1, 1}}
	three := impl.Module{M: 3, Units: []int64{1, 1, 1}}
	for name, f := range notCochains() {
		checkInvalid(t, name, cochainCalls(t, c3, a, three, f))
	}
	c4 := named(t, "c4")
	trivial, _ := impl.TrivialModule(c4, 3)
	for name, b := range notModules() {
		calls := cochainCalls(t, c4, b, trivial, impl.Cochain{Values: []int64{0}})
		calls["IsCochain"] = all(impl.IsCochain(c4, b, impl.Cochain{Values: []int64{0}}))
		calls["IsCochain, none"] = all(impl.IsCochain(c4, b, impl.Cochain{Degree: -1}))
		calls["ZeroCochain"] = all(impl.ZeroCochain(c4, b, 1))
		calls["ZeroCochain, degree"] = all(impl.ZeroCochain(c4, b, 4))
		calls["ParseCochain"] = all(impl.ParseCochain(c4, b, "0:0"))
		calls["ParseCochain, no text"] = all(impl.ParseCochain(c4, b, ""))
		checkInvalid(t, name, calls)
	}
}

// TestInvalidGroupsOfCochains asks each function for what is no group.
func TestInvalidGroupsOfCochains(t *testing.T) {
	c2, sign := named(t, "c2"), impl.Module{M: 4, Units: []int64{1, 3}}
	for name, g := range notGroups() {
		a := impl.Module{M: 2, Units: slices.Repeat([]int64{1}, len(g.Table))}
		for n := range int64(4) {
			length := 1
			for range n {
				length *= max(len(g.Table)-1, 0)
			}
			f := impl.Cochain{Degree: n, Values: make([]int64, length)}
			calls := cochainCalls(t, g, a, a, f)
			calls["CountCells"] = all(impl.CountCells(g, n))
			calls["CountCells, degree"] = all(impl.CountCells(g, 4))
			calls["IsCochain"] = all(impl.IsCochain(g, a, f))
			calls["ZeroCochain"] = all(impl.ZeroCochain(g, a, n))
			calls["ZeroCochain, degree"] = all(impl.ZeroCochain(g, a, -1))
			calls["ListOf"] = all(impl.ListOf(g, n, 0))
			calls["ListOf, degree"] = all(impl.ListOf(g, math.MaxInt64, -1))
			calls["ParseCochain"] = all(impl.ParseCochain(g, a, "0:0"))
			calls["ParseCochain, no text"] = all(impl.ParseCochain(g, a, ""))
			calls["PullBack, first"] = all(impl.PullBack(g, c2, sign, []int64{9}, impl.Cochain{Values: []int64{1}}))
			calls["PullBack, no list"] = all(impl.PullBack(g, c2, sign, nil, impl.Cochain{Values: []int64{1}}))
			checkInvalid(t, name, calls)
		}
	}
}

// TestCochainsShareNoMemory overwrites results: neither arguments, nor other results change.
func TestCochainsShareNoMemory(t *testing.T) {
	g, a := named(t, "klein"), impl.Module{M: 12, Units: []int64{1, 5, 7, 11}}
	f := sampleCochain(g, a, 1, 1)
	images, one := []int64{0, 1, 2, 3}, impl.Cochain{Values: []int64{1}}
	trivial, _ := impl.TrivialModule(g, 12)
	values := func(f impl.Cochain, code int64) [][]int64 { return [][]int64{f.Values} }
	calls := map[string]func() [][]int64{
		"ZeroCochain":       func() [][]int64 { return values(impl.ZeroCochain(g, a, 2)) },
		"ListOf":            func() [][]int64 { l, _ := impl.ListOf(g, 3, 7); return [][]int64{l} },
		"AddCochains":       func() [][]int64 { return values(impl.AddCochains(g, a, f, f, 0)) },
		"BoundaryOf":        func() [][]int64 { return values(impl.BoundaryOf(g, a, f)) },
		"ProductOfCochains": func() [][]int64 { return values(impl.ProductOfCochains(g, trivial, a, one, f)) },
		"MoveCochain":       func() [][]int64 { return values(impl.MoveCochain(g, a, f, 0)) },
		"ParseCochain":      func() [][]int64 { return values(impl.ParseCochain(g, a, "1:1,2,3")) },
		"PullBack": func() [][]int64 {
			b, h, _ := impl.PullBack(g, g, a, images, f)
			return [][]int64{b.Units, h.Values}
		},
	}
	checkSharing(t, calls, func() string { return fmt.Sprint(g, a, f, images, one, trivial) })
}

func TestCochainArgumentsAreKept(t *testing.T) {
	for _, name := range allNames {
		g := spareGroup(named(t, name))
		n := len(g.Table)
		images := make([]int64, n)
		for x := range images {
			images[x] = int64(x)
		}
		images = spare(images)
		for _, plain := range modulesOf(t, named(t, name), 12) {
			a := spareModule(plain)
			for degree := range int64(4) {
				f := spareCochain(sampleCochain(g, plain, degree, 2))
				list := spare(make([]int64, degree))
				cells := len(f.Values)
				told := func() string {
					return wholeGroup(g) + fmt.Sprint(a, a.Units[:n+3], images[:n+3], f, f.Values[:cells+3], list[:degree+3])
				}
				before := told()
				impl.CountCells(g, degree)
				impl.IsCochain(g, a, f)
				impl.ZeroCochain(g, a, degree)
				impl.ListOf(g, degree, 0)
				impl.ValueOf(g, a, f, list)
				impl.AddCochains(g, a, f, f, 5)
				impl.BoundaryOf(g, a, f)
				impl.IsCocycle(g, a, f)
				impl.ProductOfCochains(g, a, a, f, impl.Cochain{Values: []int64{5}})
				impl.PullBack(g, g, a, images, f)
				impl.MoveCochain(g, a, f, int64(n-1))
				impl.CochainText(g, a, f)
				impl.ParseCochain(g, a, "1:1")
				if told() != before {
					t.Errorf("%s: an argument has changed", name)
				}
			}
		}
	}
}
