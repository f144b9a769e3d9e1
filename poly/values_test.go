package poly_test

import (
	"math/big"
	"testing"

	"skylantern/api"
	"skylantern/poly"
	"skylantern/wide"
)

// exp returns an integer to the power of a number.
func exp(n *big.Int, power int) *big.Int {
	return new(big.Int).Exp(n, big.NewInt(int64(power)), nil)
}

// evaluated returns the value at a ratio, times the denominator to the power of the degree, term by term.
func evaluated(p api.Poly, at api.Ratio) *big.Int {
	out := new(big.Int)
	for i, a := range p {
		term := new(big.Int).Mul(bigOf(a), exp(bigOf(at.Num), i))
		out.Add(out, term.Mul(term, exp(bigOf(at.Den), len(p)-1-i)))
	}
	return out
}

// composed returns the polynomial p((a + b u) / den) times den to the power of the degree, term by term.
func composed(p api.Poly, a, b, den api.Wide) bigs {
	out := zeros(len(p))
	for i, c := range p {
		for j := range i + 1 {
			term := new(big.Int).Binomial(int64(i), int64(j))
			term.Mul(term, bigOf(c))
			term.Mul(term, exp(bigOf(a), i-j))
			term.Mul(term, exp(bigOf(b), j))
			out[j].Add(out[j], term.Mul(term, exp(bigOf(den), len(p)-1-i)))
		}
	}
	return trim(out)
}

// expectValues fails unless Eval, Value and SignAt return what is right.
func expectValues(t *testing.T, p api.Poly, at api.Ratio) {
	t.Helper()
	want := evaluated(p, at)
	v, e := poly.Eval(p, at)
	if v != wideOf(want) || e != api.OK {
		t.Fatal("Eval", short(p), v, e)
	}
	n, e := poly.SignAt(p, at)
	if n != want.Sign() || e != api.OK {
		t.Fatal("SignAt", short(p), n, e)
	}
	ratio := new(big.Rat).SetFrac(want, exp(bigOf(at.Den), max(len(p)-1, 0)))
	r, e := poly.Value(p, at)
	if r != (api.Ratio{Num: wideOf(ratio.Num()), Den: wideOf(ratio.Denom())}) || e != api.OK {
		t.Fatal("Value", short(p), r, e)
	}
}

// expectNoValues fails unless Eval, Value and SignAt return an error.
func expectNoValues(t *testing.T, p api.Poly, at api.Ratio, want api.Errno) {
	t.Helper()
	v, e := poly.Eval(p, at)
	expectNone(t, "Eval", v, e, want)
	r, e := poly.Value(p, at)
	expectNone(t, "Value", r, e, want)
	n, e := poly.SignAt(p, at)
	expectNone(t, "SignAt", n, e, want)
}

// P2.4

func TestValues(t *testing.T) {
	at := []api.Ratio{ratio(0, 1), ratio(0, 12), ratio(1, 1), ratio(-1, 1), ratio(7, 5), ratio(-7, 5), ratio(2, 4), ratio(-6, 9), ratio(1, 1000003), ratio(1<<62, 3), {Num: negative(below(100)), Den: below(99)}, {Num: wide.Of(-3), Den: below(200)}}
	for _, p := range samples() {
		for _, r := range at {
			expectValues(t, p, r)
		}
	}
}

func TestValueExamples(t *testing.T) {
	for i, c := range []struct {
		p        api.Poly
		at       api.Ratio
		eval     int
		num, den int
	}{
		{ints(1, 0, 2), ratio(1, 3), 11, 11, 9},
		{ints(1, 0, 2), ratio(2, 6), 44, 11, 9},
		{ints(-2, 0, 1), ratio(7, 5), -1, -1, 25},
		{ints(-1, 2), ratio(1, 2), 0, 0, 1},
		{ints(-3), ratio(5, 7), -3, -3, 1},
		{nil, ratio(5, 7), 0, 0, 1},
		{ints(0, 0, 1), ratio(-4, 6), 16, 4, 9},
		{ints(0, 3), ratio(2, 3), 6, 2, 1},
	} {
		if v, e := poly.Eval(c.p, c.at); v != wide.Of(c.eval) || e != api.OK {
			t.Error("Eval", i, v, e)
		}
		if r, e := poly.Value(c.p, c.at); r != ratio(c.num, c.den) || e != api.OK {
			t.Error("Value", i, r, e)
		}
	}
}

func TestValuesAtTheLimit(t *testing.T) {
	top, one := below(wide.MaxBits), wide.Of(1)
	for _, c := range []struct {
		p    api.Poly
		at   api.Ratio
		fits bool
	}{
		// 80 + 24 * 2727 + 8 is MaxBits.
		{full(24, 80, 0), api.Ratio{Num: below(2727), Den: below(2727)}, true},
		{full(24, 80, 2), api.Ratio{Num: negative(below(2727)), Den: below(2727)}, true},
		{full(24, 80, 1), api.Ratio{Num: below(2726), Den: below(2727)}, true},
		{full(24, 81, 0), api.Ratio{Num: below(2727), Den: one}, false},
		{full(24, 81, 0), api.Ratio{Num: one, Den: below(2727)}, false},
		{full(24, 80, 0), api.Ratio{Num: negative(below(2728)), Den: one}, false},
		{full(24, 80, 0), api.Ratio{Num: wide.Of(0), Den: below(2728)}, false},
		{full(0, wide.MaxBits-8, 1), ratio(1, 3), true},
		{full(0, wide.MaxBits-8, 0), api.Ratio{Num: top, Den: top}, true},
		{full(0, wide.MaxBits-7, 0), ratio(0, 1), false},
		{ints(0, 1), api.Ratio{Num: below(wide.MaxBits - 9), Den: one}, true},
		{ints(0, 1), api.Ratio{Num: below(wide.MaxBits - 8), Den: one}, false},
		{ints(0, 1), api.Ratio{Num: one, Den: top}, false},
		{nil, api.Ratio{Num: top, Den: top}, true},
		{append(make(api.Poly, 24), one), api.Ratio{Num: one, Den: below(2730)}, true},
		{append(make(api.Poly, 24), one), api.Ratio{Num: one, Den: below(2731)}, false},
	} {
		if c.fits {
			expectValues(t, c.p, c.at)
		} else {
			expectNoValues(t, c.p, c.at, api.ErrFull)
		}
	}
}

func TestValuesOfInvalid(t *testing.T) {
	large := full(24, wide.MaxBits, 0)
	for _, p := range invalid() {
		expectNoValues(t, p, ratio(1, 2), api.ErrArg)
		expectNoValues(t, p, ratio(1, 0), api.ErrArg)
	}
	for _, r := range invalidRatios() {
		expectNoValues(t, nil, r, api.ErrArg)
		expectNoValues(t, ints(1, 2), r, api.ErrArg)
		expectNoValues(t, large, r, api.ErrArg)
	}
}

// P2.5

func TestCompose(t *testing.T) {
	r := source()
	for _, p := range samples() {
		for _, c := range [][3]int{{1, 1, 3}, {0, 1, 1}, {0, -1, 1}, {0, 0, 7}, {5, 0, 2}, {0, 5, 2}, {-2, 4, 6}, {-7, -3, 1}, {1 << 60, -1 << 61, 1 << 62}} {
			a, b, den := wide.Of(c[0]), wide.Of(c[1]), wide.Of(c[2])
			q, e := poly.Compose(p, a, b, den)
			expect(t, "Compose "+short(p), q, e, composed(p, a, b, den))
		}
		a, b, den := randomWide(r, 100), randomWide(r, 90), below(1+r.Intn(100))
		q, e := poly.Compose(p, a, b, den)
		expect(t, "Compose "+short(p), q, e, composed(p, a, b, den))
	}
}

func TestComposeExamples(t *testing.T) {
	for i, c := range []struct {
		p         api.Poly
		a, b, den int
		want      api.Poly
	}{
		{ints(1, 0, 2), 1, 1, 3, ints(11, 4, 2)},
		{ints(0, 0, 1), -1, 2, 1, ints(1, -4, 4)},
		{ints(-1, 2), 1, 0, 2, nil},
		{ints(-1, 0, 1), 1, 1, 1, ints(0, 2, 1)},
		{ints(4), 3, 3, 9, ints(4)},
		{nil, 3, 3, 9, nil},
	} {
		q, e := poly.Compose(c.p, wide.Of(c.a), wide.Of(c.b), wide.Of(c.den))
		expect(t, "Compose "+string(rune('0'+i)), q, e, bigsOf(c.want))
	}
}

func TestComposeAtTheLimit(t *testing.T) {
	top, one, zero := below(wide.MaxBits), wide.Of(1), wide.Of(0)
	long := below(2726)
	for i, c := range []struct {
		p         api.Poly
		a, b, den api.Wide
		fits      bool
	}{
		{full(24, 80, 0), long, long, long, true},
		{full(24, 80, 2), negative(long), long, long, true},
		{full(24, 80, 1), long, negative(long), one, true},
		{full(24, 81, 0), long, zero, one, false},
		{full(24, 81, 0), zero, negative(long), one, false},
		{full(24, 81, 0), zero, one, long, false},
		{full(0, wide.MaxBits-8, 1), top, top, top, true},
		{full(0, wide.MaxBits-7, 1), zero, zero, one, false},
		{ints(1, 1), below(wide.MaxBits - 10), one, one, true},
		{ints(1, 1), one, one, below(wide.MaxBits - 9), false},
		{nil, top, top, top, true},
	} {
		q, e := poly.Compose(c.p, c.a, c.b, c.den)
		if !c.fits {
			expectError(t, "Compose "+string(rune('0'+i)), q, e, api.ErrFull)
			continue
		}
		expect(t, "Compose "+string(rune('0'+i)), q, e, composed(c.p, c.a, c.b, c.den))
	}
}

func TestComposeErrors(t *testing.T) {
	large, top, one := full(24, wide.MaxBits, 0), below(wide.MaxBits), wide.Of(1)
	for _, bad := range invalid() {
		q, e := poly.Compose(bad, one, one, wide.Of(0))
		expectError(t, "Compose", q, e, api.ErrArg)
	}
	for _, bad := range invalidWides() {
		for _, c := range [][3]api.Wide{{bad, one, one}, {one, bad, one}, {one, one, bad}, {bad, one, wide.Of(-1)}} {
			for _, p := range []api.Poly{nil, ints(1), large} {
				q, e := poly.Compose(p, c[0], c[1], c[2])
				expectError(t, "Compose", q, e, api.ErrArg)
			}
		}
	}
	for _, den := range []api.Wide{wide.Of(0), wide.Of(-1), negative(top)} {
		for _, p := range []api.Poly{nil, ints(1), ints(1, 1), large} {
			q, e := poly.Compose(p, top, top, den)
			expectError(t, "Compose", q, e, api.ErrRange)
		}
	}
}
