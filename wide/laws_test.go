package wide_test

import (
	"math/rand"
	"slices"
	"testing"

	"skylantern/api"
	"skylantern/wide"
)

// must returns a function that gives the result of an operation, which must have no error.
func must(t *testing.T, op func(a, b api.Wide) (api.Wide, api.Errno)) func(a, b api.Wide) api.Wide {
	return func(a, b api.Wide) api.Wide {
		t.Helper()
		w, e := op(a, b)
		if e != api.OK {
			t.Fatal(short(a), short(b), e)
		}
		return w
	}
}

// triples calls a function with many integers that are small enough for products of them.
func triples(do func(a, b, c api.Wide)) {
	r := source()
	for range 2000 {
		do(randomLimbs(r, 1+r.Intn(6)), randomLimbs(r, 1+r.Intn(6)), randomLimbs(r, 1+r.Intn(6)))
	}
}

// P1.9

func TestSumsAndProducts(t *testing.T) {
	add, mul := must(t, wide.Add), must(t, wide.Mul)
	triples(func(a, b, c api.Wide) {
		if add(a, b) != add(b, a) || mul(a, b) != mul(b, a) {
			t.Fatal("order of two", short(a), short(b))
		}
		if add(add(a, b), c) != add(a, add(b, c)) || mul(mul(a, b), c) != mul(a, mul(b, c)) {
			t.Fatal("order of three", short(a), short(b), short(c))
		}
		if mul(a, add(b, c)) != add(mul(a, b), mul(a, c)) {
			t.Fatal("product of a sum", short(a), short(b), short(c))
		}
	})
}

func TestInverses(t *testing.T) {
	add, sub, mul := must(t, wide.Add), must(t, wide.Sub), must(t, wide.Mul)
	triples(func(a, b, _ api.Wide) {
		if sub(add(a, b), b) != a {
			t.Fatal("Sub of Add", short(a), short(b))
		}
		text, e := wide.Text(a)
		if w, f := wide.Parse(text); w != a || e != api.OK || f != api.OK {
			t.Fatal("Parse of Text", short(a), e, f)
		}
		if wide.Sign(b) == 0 {
			return
		}
		if q, r, e := wide.Quo(mul(a, b), b); q != a || r != wide.Of(0) || e != api.OK {
			t.Fatal("Quo of Mul", short(a), short(b), e)
		}
	})
}

func TestTotalOrder(t *testing.T) {
	add := must(t, wide.Add)
	triples(func(a, b, c api.Wide) {
		if wide.Compare(a, b) != -wide.Compare(b, a) || (wide.Compare(a, b) == 0) != (a == b) {
			t.Fatal("two", short(a), short(b))
		}
		if wide.Compare(a, b) <= 0 && wide.Compare(b, c) <= 0 && wide.Compare(a, c) > 0 {
			t.Fatal("three", short(a), short(b), short(c))
		}
		if wide.Compare(add(a, c), add(b, c)) != wide.Compare(a, b) {
			t.Fatal("sums", short(a), short(b), short(c))
		}
	})
}

func TestSortedRatios(t *testing.T) {
	compare := func(a, b api.Ratio) int {
		n, e := wide.CompareRatio(a, b)
		if e != api.OK {
			t.Fatal(e)
		}
		return n
	}
	all := ratios()
	slices.SortStableFunc(all, compare)
	for i := 1; i < len(all); i++ {
		if fraction(all[i-1]).Cmp(fraction(all[i])) > 0 {
			t.Error(i)
		}
	}
}

// P1, and the rule that a result with an error is the zero value.

func TestInvalidArguments(t *testing.T) {
	good := greatest()
	ops := []func(a, b api.Wide) (api.Wide, api.Errno){wide.Add, wide.Sub, wide.Mul, wide.GCD}
	for _, bad := range invalid() {
		for _, c := range [][2]api.Wide{{bad, good}, {good, bad}, {bad, bad}, {bad, wide.Of(0)}} {
			for _, op := range ops {
				w, e := op(c[0], c[1])
				expectError(t, "of invalid integers", w, e, api.ErrArg)
			}
			q, r, e := wide.Quo(c[0], c[1])
			expectError(t, "Quo of invalid integers", [2]api.Wide{q, r}, e, api.ErrArg)
		}
		w, e := wide.Neg(bad)
		expectError(t, "Neg", w, e, api.ErrArg)
		w, e = wide.Shift(bad, 1)
		expectError(t, "Shift", w, e, api.ErrArg)
	}
}

func TestNoPanic(t *testing.T) {
	r := rand.New(rand.NewSource(2))
	for range 20000 {
		a, b := anything(r), anything(r)
		x, y := api.Ratio{Num: a, Den: b}, api.Ratio{Num: b, Den: a}
		results := []api.Wide{wide.Of(r.Int())}
		add := func(w api.Wide, e api.Errno) {
			results = append(results, w)
		}
		add(wide.Neg(a))
		add(wide.Add(a, b))
		add(wide.Sub(a, b))
		add(wide.Mul(a, b))
		add(wide.GCD(a, b))
		add(wide.Shift(a, r.Intn(300)-150))
		add(wide.Parse(a.Mag))
		add(wide.Floor(x))
		q, rest, _ := wide.Quo(a, b)
		results = append(results, q, rest)
		for _, op := range []func(a, b api.Ratio) (api.Ratio, api.Errno){wide.AddRatio, wide.SubRatio, wide.MulRatio} {
			if s, e := op(x, y); wide.ValidRatio(s) != (e == api.OK) {
				t.Fatal("a ratio that is not valid")
			}
		}
		for _, w := range results {
			if !wide.Valid(w) {
				t.Fatal("a result that is not valid", w)
			}
		}
	}
}

// anything returns a wide integer that need not be valid.
func anything(r *rand.Rand) api.Wide {
	mag := make([]byte, r.Intn(30))
	for i := range mag {
		mag[i] = byte(r.Intn(256) * r.Intn(2))
	}
	return api.Wide{Neg: r.Intn(2) == 0, Mag: string(mag)}
}
