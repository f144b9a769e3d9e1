package poly_test

import (
	"math/big"
	"testing"

	"skylantern/api"
	"skylantern/poly"
	"skylantern/wide"
)

// sum returns p plus q times by.
func sum(p, q bigs, by int64) bigs {
	out := zeros(max(len(p), len(q)))
	for i, n := range p {
		out[i].Add(out[i], n)
	}
	for i, n := range q {
		out[i].Add(out[i], new(big.Int).Mul(n, big.NewInt(by)))
	}
	return trim(out)
}

// product returns the product of two polynomials.
func product(p, q bigs) bigs {
	out := zeros(len(p) + len(q))
	for i, a := range p {
		for j, b := range q {
			out[i+j].Add(out[i+j], new(big.Int).Mul(a, b))
		}
	}
	return trim(out)
}

// P2.2

func TestAddSub(t *testing.T) {
	pairs(func(p, q api.Poly) {
		s, e := poly.Add(p, q)
		expect(t, "Add "+short(p)+" "+short(q), s, e, sum(bigsOf(p), bigsOf(q), 1))
		d, e := poly.Sub(p, q)
		expect(t, "Sub "+short(p)+" "+short(q), d, e, sum(bigsOf(p), bigsOf(q), -1))
	})
}

func TestAddSubAtTheLimit(t *testing.T) {
	top, one := below(wide.MaxBits), wide.Of(1)
	least := negative(top)
	lists := []api.Poly{{top}, {least}, {one}, ints(-1), {top, one}, {one, top}, {least, one}, {one, top, one}, {one, least, one}, {wide.Of(0), one}, full(24, wide.MaxBits, 0), full(24, wide.MaxBits, 2), full(24, wide.MaxBits-1, 0)}
	for _, p := range lists {
		for _, q := range lists {
			s, e := poly.Add(p, q)
			expectOr(t, "Add", s, e, sum(bigsOf(p), bigsOf(q), 1))
			d, e := poly.Sub(p, q)
			expectOr(t, "Sub", d, e, sum(bigsOf(p), bigsOf(q), -1))
		}
	}
	p, e := poly.Add(api.Poly{top, one}, api.Poly{one, wide.Of(-1)})
	expectError(t, "Add", p, e, api.ErrFull)
	p, e = poly.Sub(api.Poly{one, least}, ints(1, 1))
	expectError(t, "Sub", p, e, api.ErrFull)
}

func TestMul(t *testing.T) {
	pairs(func(p, q api.Poly) {
		name := "Mul " + short(p) + " " + short(q)
		m, e := poly.Mul(p, q)
		if len(p) > 0 && len(q) > 0 && len(p)+len(q)-2 > poly.MaxDegree {
			expectError(t, name, m, e, api.ErrFull)
			return
		}
		expect(t, name, m, e, product(bigsOf(p), bigsOf(q)))
	})
}

func TestMulAtTheLimit(t *testing.T) {
	const half = (wide.MaxBits - 6) / 2
	for _, c := range []struct {
		p, q api.Poly
		fits bool
	}{
		{full(12, half, 0), full(12, half+1, 0), true},
		{full(12, half+1, 0), full(12, half+1, 0), false},
		{full(12, half, 1), full(12, half+1, 2), true},
		{full(0, wide.MaxBits-6, 0), full(24, 1, 0), true},
		{full(0, wide.MaxBits-5, 0), full(24, 1, 0), false},
		{full(0, wide.MaxBits-6, 0), ints(-1), true},
		{full(0, wide.MaxBits-5, 0), ints(1), false},
		{ints(1), full(0, wide.MaxBits-5, 1), false},
		{full(0, wide.MaxBits, 0), nil, true},
		{nil, full(24, wide.MaxBits, 0), true},
		{full(12, 1, 0), full(13, 1, 0), false},
		{full(0, 1, 0), full(24, 1, 0), true},
		{full(24, 1, 0), full(1, 1, 0), false},
	} {
		m, e := poly.Mul(c.p, c.q)
		if !c.fits {
			expectError(t, "Mul", m, e, api.ErrFull)
			continue
		}
		expect(t, "Mul", m, e, product(bigsOf(c.p), bigsOf(c.q)))
	}
}

// P2.3

func TestScale(t *testing.T) {
	for _, p := range samples() {
		for _, by := range []api.Wide{wide.Of(0), wide.Of(1), wide.Of(-1), wide.Of(12), below(300), negative(below(65))} {
			s, e := poly.Scale(p, by)
			expect(t, "Scale "+short(p), s, e, product(bigsOf(p), trim(bigs{bigOf(by)})))
		}
	}
}

func TestDerive(t *testing.T) {
	for _, p := range samples() {
		var want bigs
		for i := 1; i < len(p); i++ {
			want = append(want, new(big.Int).Mul(bigOf(p[i]), big.NewInt(int64(i))))
		}
		d, e := poly.Derive(p)
		expect(t, "Derive "+short(p), d, e, want)
	}
	d, e := poly.Derive(ints(5, 4, 3))
	expect(t, "Derive", d, e, bigsOf(ints(4, 6)))
}

func TestScaleDeriveAtTheLimit(t *testing.T) {
	top := below(wide.MaxBits)
	for i, c := range []struct {
		p    api.Poly
		by   api.Wide
		fits bool
	}{
		{api.Poly{top, top}, wide.Of(-1), true},
		{api.Poly{top, top}, wide.Of(0), true},
		{nil, top, true},
		{ints(1, -1), top, true},
		{ints(1, 2), top, false},
		{ints(2, 1), top, false},
		{api.Poly{top}, wide.Of(-2), false},
		{full(24, 1000, 2), below(wide.MaxBits - 1000), true},
		{full(24, 1000, 2), below(wide.MaxBits - 999), false},
	} {
		s, e := poly.Scale(c.p, c.by)
		want := product(bigsOf(c.p), trim(bigs{bigOf(c.by)}))
		if expectOr(t, "Scale", s, e, want); c.fits != (e == api.OK) {
			t.Error(i, e)
		}
	}
	d, e := poly.Derive(api.Poly{top, top})
	expect(t, "Derive", d, e, bigs{bigOf(top)})
	d, e = poly.Derive(full(24, wide.MaxBits-5, 3))
	if len(d) != 24 || e != api.OK {
		t.Error("Derive", len(d), e)
	}
	for _, p := range []api.Poly{{top, top, top}, {top, top, top, wide.Of(1)}, full(24, wide.MaxBits-4, 1), append(make(api.Poly, 24), negative(below(wide.MaxBits-4)))} {
		d, e := poly.Derive(p)
		expectError(t, "Derive", d, e, api.ErrFull)
	}
}

func TestSumsOfInvalid(t *testing.T) {
	good := full(24, wide.MaxBits, 0)
	for _, bad := range invalid() {
		for _, op := range []func(p, q api.Poly) (api.Poly, api.Errno){poly.Add, poly.Sub, poly.Mul} {
			for _, c := range [][2]api.Poly{{bad, good}, {good, bad}, {bad, bad}, {bad, nil}, {nil, bad}} {
				p, e := op(c[0], c[1])
				expectError(t, "of invalid polynomials", p, e, api.ErrArg)
			}
		}
		p, e := poly.Scale(bad, wide.Of(0))
		expectError(t, "Scale", p, e, api.ErrArg)
		p, e = poly.Derive(bad)
		expectError(t, "Derive", p, e, api.ErrArg)
	}
	for _, bad := range invalidWides() {
		p, e := poly.Scale(nil, bad)
		expectError(t, "Scale", p, e, api.ErrArg)
		p, e = poly.Scale(good, bad)
		expectError(t, "Scale", p, e, api.ErrArg)
	}
}
