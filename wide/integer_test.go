package wide_test

import (
	"math"
	"math/big"
	"strings"
	"testing"

	"skylantern/api"
	"skylantern/wide"
)

// P1.1

func TestValid(t *testing.T) {
	for _, w := range samples() {
		if !wide.Valid(w) {
			t.Error("not valid:", short(w))
		}
	}
	full := strings.Repeat("\x01", wide.MaxBits/8)
	for _, w := range []api.Wide{{}, {Mag: "\x01"}, {Neg: true, Mag: "\x01\x00"}, {Neg: true, Mag: full}} {
		if !wide.Valid(w) {
			t.Error("not valid:", short(w))
		}
	}
	for i, w := range append(invalid(), api.Wide{Mag: full + "\x01"}) {
		if wide.Valid(w) {
			t.Error("valid:", i)
		}
	}
}

func TestCompareSignLen(t *testing.T) {
	pairs(func(a, b api.Wide) {
		if got, want := wide.Compare(a, b), bigOf(a).Cmp(bigOf(b)); got != want {
			t.Fatal("Compare", short(a), short(b), got)
		}
	})
	for _, w := range samples() {
		n := bigOf(w)
		if wide.Sign(w) != n.Sign() || wide.Len(w) != n.BitLen() {
			t.Error(short(w), wide.Sign(w), wide.Len(w))
		}
	}
	if wide.Len(greatest()) != wide.MaxBits || wide.Len(wide.Of(-8)) != 4 {
		t.Error("Len")
	}
}

func TestCompareSignLenOfInvalid(t *testing.T) {
	for i, w := range invalid() {
		if wide.Sign(w) != 0 || wide.Len(w) != 0 || wide.Compare(w, wide.Of(1)) != 0 || wide.Compare(wide.Of(-1), w) != 0 {
			t.Error(i)
		}
	}
}

// P1.2

func TestOfInt(t *testing.T) {
	for _, n := range []int{0, 1, -1, 255, 256, -256, -300, 65535, 65536, 1 << 40, math.MaxInt - 1, math.MaxInt, math.MinInt, math.MinInt + 1} {
		w := wide.Of(n)
		if want := wideOf(big.NewInt(int64(n))); w != want {
			t.Errorf("Of(%d): %v", n, w)
		}
		if k, e := wide.Int(w); k != n || e != api.OK {
			t.Error("Int", n, k, e)
		}
	}
	if wide.Of(-300) != (api.Wide{Neg: true, Mag: "\x01\x2c"}) || wide.Of(0) != (api.Wide{}) {
		t.Error("Of")
	}
	if k, e := wide.Int(api.Wide{Neg: true, Mag: "\x01\x00"}); k != -256 || e != api.OK {
		t.Error("Int", k, e)
	}
}

func TestIntErrors(t *testing.T) {
	for _, w := range []api.Wide{power(63, 0), negative(power(63, 1)), power(64, -1), power(64, 0), negative(power(64, 0)), greatest()} {
		k, e := wide.Int(w)
		expectError(t, "Int "+short(w), k, e, api.ErrRange)
	}
	for _, w := range invalid() {
		k, e := wide.Int(w)
		expectError(t, "Int of invalid", k, e, api.ErrArg)
	}
}

// P1.3

func TestNegAddSub(t *testing.T) {
	for _, w := range samples() {
		n, e := wide.Neg(w)
		expect(t, "Neg "+short(w), n, e, new(big.Int).Neg(bigOf(w)))
	}
	pairs(func(a, b api.Wide) {
		s, e := wide.Add(a, b)
		expect(t, "Add "+short(a)+" "+short(b), s, e, new(big.Int).Add(bigOf(a), bigOf(b)))
		d, e := wide.Sub(a, b)
		expect(t, "Sub "+short(a)+" "+short(b), d, e, new(big.Int).Sub(bigOf(a), bigOf(b)))
	})
}

func TestAddSubAtTheLimit(t *testing.T) {
	one, least := wide.Of(1), negative(greatest())
	full := []struct {
		op   func(a, b api.Wide) (api.Wide, api.Errno)
		a, b api.Wide
	}{{wide.Add, greatest(), one}, {wide.Add, least, wide.Of(-1)}, {wide.Sub, greatest(), wide.Of(-1)}, {wide.Sub, least, one}}
	for i, c := range full {
		w, e := c.op(c.a, c.b)
		expectError(t, "at the limit "+string(rune('0'+i)), w, e, api.ErrFull)
	}
	if w, e := wide.Sub(greatest(), one); w != power(wide.MaxBits, -2) || e != api.OK {
		t.Error("Sub", e)
	}
	if w, e := wide.Sub(greatest(), greatest()); w != wide.Of(0) || e != api.OK {
		t.Error("Sub", e)
	}
}

// P1.4

func TestMulQuoGCD(t *testing.T) {
	pairs(func(a, b api.Wide) {
		name := short(a) + " " + short(b)
		x, y := bigOf(a), bigOf(b)
		p, e := wide.Mul(a, b)
		expect(t, "Mul "+name, p, e, new(big.Int).Mul(x, y))
		g, e := wide.GCD(a, b)
		expect(t, "GCD "+name, g, e, new(big.Int).GCD(nil, nil, new(big.Int).Abs(x), new(big.Int).Abs(y)))
		expectQuo(t, a, b)
	})
}

// expectQuo fails unless Quo gives the Euclidean quotient and remainder, or ErrRange.
func expectQuo(t *testing.T, a, b api.Wide) {
	t.Helper()
	name := "Quo " + short(a) + " " + short(b)
	q, r, e := wide.Quo(a, b)
	if wide.Sign(b) == 0 {
		expectError(t, name, [2]api.Wide{q, r}, e, api.ErrRange)
		return
	}
	quotient, rest := new(big.Int).DivMod(bigOf(a), bigOf(b), new(big.Int))
	expect(t, name, q, e, quotient)
	expect(t, name, r, e, rest)
}

func TestQuoOfInts(t *testing.T) {
	for i, c := range [][4]int{{-7, 2, -4, 1}, {7, -2, -3, 1}, {-7, -2, 4, 1}, {7, 2, 3, 1}, {-8, 4, -2, 0}, {-8, -4, 2, 0}, {0, -3, 0, 0}, {-1, 5, -1, 4}, {-1, -5, 1, 4}} {
		q, r, e := wide.Quo(wide.Of(c[0]), wide.Of(c[1]))
		if q != wide.Of(c[2]) || r != wide.Of(c[3]) || e != api.OK {
			t.Error(i, short(q), short(r), e)
		}
	}
	q, r, e := wide.Quo(wide.Of(7), wide.Of(0))
	expectError(t, "Quo(7, 0)", [2]api.Wide{q, r}, e, api.ErrRange)
}

func TestQuoOfHardLimbs(t *testing.T) {
	r := source()
	for range 20000 {
		b := randomLimbs(r, 1+r.Intn(6))
		expectQuo(t, randomLimbs(r, 1+r.Intn(12)), b)
		// Multiples, and their neighbours, are where a digit is guessed wrong.
		m := new(big.Int).Mul(bigOf(b), bigOf(randomLimbs(r, 1+r.Intn(4))))
		expectQuo(t, wideOf(m), b)
		expectQuo(t, wideOf(m.Sub(m, big.NewInt(1))), b)
	}
}

func TestQuoDigitTooGreat(t *testing.T) {
	// The three highest limbs of this number and the two highest ones of this divisor make a digit that is too great by 1.
	a, _ := new(big.Int).SetString("800000000000000000000000000000000000000000000003", 16)
	b, _ := new(big.Int).SetString("200000000000000000000000000000000000000000000001", 16)
	c, _ := new(big.Int).SetString("7fffffffffffffff8000000000000000000000000000000000000000000000000000000000000000", 16)
	d, _ := new(big.Int).SetString("800000000000000000000000000000000000000000000001", 16)
	e, _ := new(big.Int).SetString("8000000000000000fffffffffffffffffffffffffffffffe0000000000000000", 16)
	for _, x := range []*big.Int{a, c, e} {
		for _, y := range []*big.Int{b, d} {
			expectQuo(t, wideOf(x), wideOf(y))
		}
	}
}

func TestGCDOfManyLimbs(t *testing.T) {
	r := source()
	for range 3000 {
		g, a, b := bigOf(randomLimbs(r, 1+r.Intn(5))), bigOf(randomLimbs(r, 1+r.Intn(10))), bigOf(randomLimbs(r, 1+r.Intn(10)))
		a.Mul(a, g)
		b.Mul(b, g)
		got, e := wide.GCD(wideOf(a), wideOf(b))
		expect(t, "GCD "+a.Text(16)+" "+b.Text(16), got, e, new(big.Int).GCD(nil, nil, a.Abs(a), b.Abs(b)))
	}
}

func TestGCDOfNeighbours(t *testing.T) {
	// Consecutive Fibonacci numbers need the greatest number of steps; a common factor must remain.
	a, b, factor := big.NewInt(1), big.NewInt(1), big.NewInt(-12)
	for range 20000 {
		a, b = b, a.Add(a, b)
	}
	g, e := wide.GCD(wideOf(a.Mul(a, factor)), wideOf(b.Mul(b, factor)))
	expect(t, "GCD of Fibonacci numbers", g, e, big.NewInt(12))
	for i, c := range [][3]int{{-12, 18, 6}, {0, 0, 0}, {0, -5, 5}, {7, 0, 7}, {-4, -6, 2}, {math.MinInt, math.MinInt + 1, 1}} {
		if g, e := wide.GCD(wide.Of(c[0]), wide.Of(c[1])); g != wide.Of(c[2]) || e != api.OK {
			t.Error(i, short(g), e)
		}
	}
}

func TestMulAtTheLimit(t *testing.T) {
	half := power(wide.MaxBits/2, 0)
	below := power(wide.MaxBits/2-1, 0)
	w, e := wide.Mul(half, half)
	expectError(t, "Mul", w, e, api.ErrFull)
	w, e = wide.Mul(half, below)
	expect(t, "Mul", w, e, bigOf(power(wide.MaxBits-1, 0)))
	// Of factors with just as many bits together, one product fits, and one does not.
	w, e = wide.Mul(power(wide.MaxBits/2, 1), power(wide.MaxBits/2, -1))
	expect(t, "Mul", w, e, bigOf(greatest()))
	w, e = wide.Mul(power(wide.MaxBits/2, 1), wide.Of(0))
	expect(t, "Mul", w, e, new(big.Int))
	w, e = wide.Mul(greatest(), wide.Of(-2))
	expectError(t, "Mul", w, e, api.ErrFull)
	w, e = wide.Mul(negative(greatest()), greatest())
	expectError(t, "Mul", w, e, api.ErrFull)
	w, e = wide.Mul(greatest(), wide.Of(0))
	expect(t, "Mul", w, e, new(big.Int))
}

// P1.5

func TestShift(t *testing.T) {
	for _, w := range samples() {
		for _, by := range []int{0, 1, -1, 3, -3, 7, 8, -8, 63, -63, 64, -64, 65, -65, 200, -200, wide.MaxBits - 1, -wide.MaxBits + 1, wide.MaxBits, -wide.MaxBits} {
			n := bigOf(w)
			if by < 0 {
				n.Rsh(n, uint(-by))
			} else {
				n.Lsh(n, uint(by))
			}
			got, e := wide.Shift(w, by)
			expect(t, "Shift "+short(w), got, e, n)
		}
	}
	for i, c := range [][3]int{{-5, -1, -3}, {5, 3, 40}, {-1, -70, -1}, {-4, -2, -1}, {0, wide.MaxBits, 0}} {
		if w, e := wide.Shift(wide.Of(c[0]), c[1]); w != wide.Of(c[2]) || e != api.OK {
			t.Error(i, short(w), e)
		}
	}
}

func TestShiftErrors(t *testing.T) {
	for _, by := range []int{wide.MaxBits + 1, -wide.MaxBits - 1, math.MaxInt, math.MinInt} {
		w, e := wide.Shift(wide.Of(0), by)
		expectError(t, "Shift", w, e, api.ErrRange)
		w, e = wide.Shift(api.Wide{Neg: true}, by)
		expectError(t, "Shift", w, e, api.ErrArg)
	}
	for _, by := range []int{wide.MaxBits, 1} {
		w, e := wide.Shift(greatest(), by)
		expectError(t, "Shift", w, e, api.ErrFull)
	}
}
