package wide_test

import (
	"math/big"
	"math/rand"
	"strings"
	"testing"

	"skylantern/api"
	"skylantern/wide"
)

// bigOf returns a wide integer as a big one, which all results are held against.
func bigOf(w api.Wide) *big.Int {
	n := new(big.Int).SetBytes([]byte(w.Mag))
	if w.Neg {
		n.Neg(n)
	}
	return n
}

// wideOf returns a big integer as a wide one.
func wideOf(n *big.Int) api.Wide {
	return api.Wide{Neg: n.Sign() < 0, Mag: string(n.Bytes())}
}

// power returns 2 to the power of a number, plus a number.
func power(bits, plus int) api.Wide {
	n := new(big.Int).Lsh(big.NewInt(1), uint(bits))
	return wideOf(n.Add(n, big.NewInt(int64(plus))))
}

// negative returns the negative of a wide integer.
func negative(w api.Wide) api.Wide {
	return wideOf(new(big.Int).Neg(bigOf(w)))
}

// greatest returns the greatest valid wide integer.
func greatest() api.Wide { return power(wide.MaxBits, -1) }

// invalid returns wide integers that are not valid.
func invalid() []api.Wide {
	return []api.Wide{
		{Neg: true},
		{Mag: "\x00"},
		{Neg: true, Mag: "\x00"},
		{Mag: "\x00\x01"},
		{Mag: "\x00" + strings.Repeat("\xff", wide.MaxBits/8)},
		{Mag: "\x01" + strings.Repeat("\x00", wide.MaxBits/8)},
		{Neg: true, Mag: strings.Repeat("\xff", 1<<20)},
	}
}

// source returns numbers that look random and are the same in every run.
func source() *rand.Rand { return rand.New(rand.NewSource(1)) }

// randomLimbs returns an integer with some limbs; many of them have the values at which carries and digits of quotients change.
func randomLimbs(r *rand.Rand, limbs int) api.Wide {
	n := new(big.Int)
	for range limbs {
		limb := r.Uint64()
		switch r.Intn(6) {
		case 0:
			limb = 0
		case 1:
			limb = 1<<64 - 1
		case 2:
			limb = 1 << 63
		case 3:
			limb = uint64(r.Intn(3))
		}
		n.Lsh(n, 64)
		n.Or(n, new(big.Int).SetUint64(limb))
	}
	n.Rsh(n, uint(r.Intn(64)))
	if r.Intn(2) == 0 {
		n.Neg(n)
	}
	return wideOf(n)
}

// samples returns integers at the edges of bytes, limbs, ints and the limit, and some others.
func samples() []api.Wide {
	all := []api.Wide{greatest(), power(wide.MaxBits-1, 0), power(wide.MaxBits/2, 0), power(wide.MaxBits/2, -1), wide.Of(0)}
	for _, bits := range []int{0, 1, 7, 8, 31, 32, 56, 62, 63, 64, 65, 127, 128, 192, 1000} {
		for plus := -2; plus <= 2; plus++ {
			all = append(all, power(bits, plus))
		}
	}
	r := source()
	for limbs := 1; limbs <= 20; limbs++ {
		all = append(all, randomLimbs(r, limbs))
	}
	for i := range all {
		all = append(all, negative(all[i]))
	}
	return all
}

// pairs calls a function for all pairs of samples.
func pairs(do func(a, b api.Wide)) {
	all := samples()
	for _, a := range all {
		for _, b := range all {
			do(a, b)
		}
	}
}

// short returns a wide integer for a message.
func short(w api.Wide) string {
	text := bigOf(w).Text(16)
	if len(text) > 80 {
		return text[:40] + ".." + text[len(text)-20:]
	}
	return text
}

// expect fails unless an integer and an error are those of a big integer: its wide form if it fits, and ErrFull if not.
func expect(t *testing.T, what string, got api.Wide, e api.Errno, want *big.Int) {
	t.Helper()
	w, f := wideOf(want), api.OK
	if want.BitLen() > wide.MaxBits {
		w, f = api.Wide{}, api.ErrFull
	}
	if got != w || e != f {
		t.Fatalf("%s: got %s, error %d; want %s, error %d", what, short(got), e, short(w), f)
	}
}

// expectError fails unless a result is the zero value and an error is the wanted one.
func expectError[T comparable](t *testing.T, what string, got T, e, want api.Errno) {
	t.Helper()
	var zero T
	if got != zero || e != want {
		t.Errorf("%s: got %v, error %d; want no result, error %d", what, got, e, want)
	}
}
