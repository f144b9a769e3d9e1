package bernstein_test

import (
	"math/big"
	"math/rand"
	"slices"
	"strings"
	"testing"

	"skylantern/api"
	"skylantern/bernstein"
	"skylantern/poly"
	"skylantern/wide"
)

// bigOf returns a wide integer as a big one.
func bigOf(w api.Wide) *big.Int {
	n := new(big.Int).SetBytes([]byte(w.Mag))
	if w.Neg {
		n.Neg(n)
	}
	return n
}

// wideOf returns a big integer as a wide one.
func wideOf(n *big.Int) api.Wide {
	return api.Wide{Neg: n.Sign() < 0, Mag: string(n.Bytes())}
}

// ints returns the list of some ints, as it is.
func ints(l ...int) api.Poly {
	out := make(api.Poly, len(l))
	for i, n := range l {
		out[i] = wide.Of(n)
	}
	return out
}

// ratio returns a ratio of ints, as it is.
func ratio(num, den int) api.Ratio { return api.Ratio{Num: wide.Of(num), Den: wide.Of(den)} }

// ratioOf returns a big ratio as one in lowest terms.
func ratioOf(r *big.Rat) api.Ratio { return api.Ratio{Num: wideOf(r.Num()), Den: wideOf(r.Denom())} }

// ratOf returns a valid ratio as a big one.
func ratOf(r api.Ratio) *big.Rat { return new(big.Rat).SetFrac(bigOf(r.Num), bigOf(r.Den)) }

// source returns numbers that look random and are the same in every run.
func source() *rand.Rand { return rand.New(rand.NewSource(1)) }

// randomList returns integers of at most some bits, with any signs; many of them are 0, or as great as they can be.
func randomList(r *rand.Rand, length, bits int) []api.Wide {
	out := make([]api.Wide, length)
	for i := range out {
		n := new(big.Int).Lsh(big.NewInt(1), uint(bits))
		switch r.Intn(6) {
		case 0:
			n.SetInt64(0)
		case 1:
			n.Sub(n, big.NewInt(1))
		default:
			n.Rand(r, n)
		}
		if r.Intn(2) == 0 {
			n.Neg(n)
		}
		out[i] = wideOf(n)
	}
	return out
}

// trimmed returns a list without zeros at the end.
func trimmed(l []api.Wide) api.Poly {
	for len(l) > 0 && l[len(l)-1] == wide.Of(0) {
		l = l[:len(l)-1]
	}
	return l
}

// forms returns forms of all degrees.
func forms() [][]api.Wide {
	all := [][]api.Wide{ints(0), ints(-7), ints(1, 0), ints(0, 2, 0), ints(1, -3, 2), ints(1, 2, 1), ints(1, -2, 1), ints(0, 0, 0, 0, 0), ints(3, 9, 9, 3)}
	r := source()
	for length := 1; length <= poly.MaxDegree+1; length++ {
		all = append(all, randomList(r, length, 1+r.Intn(5)), randomList(r, length, 60+r.Intn(10)), randomList(r, length, 1+r.Intn(300)))
	}
	return all
}

// samples returns polynomials of all degrees.
func samples() []api.Poly {
	all := []api.Poly{nil, ints(1), ints(-5), ints(0, 1), ints(1, -1), ints(0, 1, -1), ints(1, -2, 1), ints(1, -3, 3), ints(1, -4, 4), ints(1, -6, 9), ints(2, -9, 10), ints(0, 0, 0, 1), ints(-1, 5, -3, 0, 2)}
	for _, form := range forms() {
		all = append(all, trimmed(form))
	}
	return all
}

// product returns the product of some polynomials.
func product(all ...api.Poly) api.Poly {
	out := ints(1)
	for _, p := range all {
		next, e := poly.Mul(out, p)
		if e != api.OK {
			panic("a product in a test is too large")
		}
		out = next
	}
	return out
}

// pattern is how the integers of a list at a limit go on.
type pattern int

// In a list of ones the sums are greatest if integers are added, in one of turns if they are subtracted.
const (
	ones pattern = iota
	minus
	turns
)

// patterns are all patterns.
func patterns() []pattern { return []pattern{ones, minus, turns} }

// full returns a list of integers with exactly some bits, as great as they can be.
func full(length, bits int, as pattern) []api.Wide {
	n := new(big.Int).Lsh(big.NewInt(1), uint(bits))
	n.Sub(n, big.NewInt(1))
	out := make([]api.Wide, length)
	for i := range out {
		if as == minus || as == turns && i%2 == 1 {
			out[i] = wideOf(new(big.Int).Neg(n))
		} else {
			out[i] = wideOf(n)
		}
	}
	return out
}

// alone returns a list with a single integer of exactly some bits, and zeros around it.
func alone(length, at, bits int) []api.Wide {
	out := make([]api.Wide, length)
	out[at] = full(1, bits, ones)[0]
	return out
}

// invalidWides returns integers that are not valid.
func invalidWides() []api.Wide {
	return []api.Wide{{Neg: true}, {Mag: "\x00"}, {Mag: "\x00\x01"}, {Mag: strings.Repeat("\x01", wide.MaxBits/8+1)}}
}

// notForms returns lists that are not forms.
func notForms() [][]api.Wide {
	all := [][]api.Wide{nil, {}, make([]api.Wide, poly.MaxDegree+2), make([]api.Wide, 1<<20), full(poly.MaxDegree+2, wide.MaxBits, ones)}
	for _, bad := range invalidWides() {
		all = append(all, []api.Wide{bad}, []api.Wide{wide.Of(1), bad, wide.Of(1)}, []api.Wide{full(1, wide.MaxBits, ones)[0], bad})
	}
	return all
}

// notPolys returns lists that are not polynomials.
func notPolys() []api.Poly {
	all := []api.Poly{ints(0), ints(1, 0), slices.Repeat(ints(1), poly.MaxDegree+2), append(make(api.Poly, 1<<20), wide.Of(1))}
	for _, bad := range invalidWides() {
		all = append(all, api.Poly{bad}, api.Poly{bad, wide.Of(1)}, api.Poly{full(1, wide.MaxBits, ones)[0], bad})
	}
	return all
}

// short returns a list for a message.
func short(l []api.Wide) string {
	texts := make([]string, min(len(l), 30))
	for i := range texts {
		texts[i] = bigOf(l[i]).String()
		if len(texts[i]) > 40 {
			texts[i] = texts[i][:20] + ".." + texts[i][len(texts[i])-10:]
		}
	}
	return "(" + strings.Join(texts, " ") + ")"
}

// expect fails unless a list and an error are a wanted list and none.
func expect(t *testing.T, what string, got []api.Wide, e api.Errno, want []api.Wide) {
	t.Helper()
	if !slices.Equal(got, want) || e != api.OK {
		t.Fatalf("%s: got %s, error %d; want %s", what, short(got), e, short(want))
	}
}

// expectRatios fails unless bounds and an error are wanted bounds and none.
func expectRatios(t *testing.T, what string, least, greatest api.Ratio, e api.Errno, low, high *big.Rat) {
	t.Helper()
	if least != ratioOf(low) || greatest != ratioOf(high) || e != api.OK {
		t.Fatal(what, "is wrong", e)
	}
}

// expectFormErrors fails unless all functions of forms return an error.
func expectFormErrors(t *testing.T, form []api.Wide, want api.Errno) {
	t.Helper()
	if p, e := bernstein.Poly(form); len(p) != 0 || e != want {
		t.Error("Poly", short(form), short(p), e)
	}
	expectSplitError(t, form, want)
	if least, greatest, e := bernstein.Bounds(form); least != (api.Ratio{}) || greatest != (api.Ratio{}) || e != want {
		t.Error("Bounds", short(form), e)
	}
}

// expectSplitError fails unless Split returns an error.
func expectSplitError(t *testing.T, form []api.Wide, want api.Errno) {
	t.Helper()
	if left, right, e := bernstein.Split(form); len(left) != 0 || len(right) != 0 || e != want {
		t.Error("Split", short(form), short(left), short(right), e)
	}
}

// expectFormError fails unless Form returns an error.
func expectFormError(t *testing.T, p api.Poly, degree int, want api.Errno) {
	t.Helper()
	if form, e := bernstein.Form(p, degree); len(form) != 0 || e != want {
		t.Error("Form", short(p), degree, short(form), e)
	}
}

// expectDepthErrors fails unless all functions with a depth return an error.
func expectDepthErrors(t *testing.T, p api.Poly, depth int, want api.Errno) {
	t.Helper()
	if least, greatest, e := bernstein.Enclose(p, depth); least != (api.Ratio{}) || greatest != (api.Ratio{}) || e != want {
		t.Error("Enclose", short(p), depth, e)
	}
	if is, e := bernstein.Positive(p, depth); is || e != want {
		t.Error("Positive", short(p), depth, is, e)
	}
}
