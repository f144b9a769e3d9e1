package sign_test

import (
	"math/rand"
	"slices"
	"testing"

	"skylantern/api"
	"skylantern/sign"
	"skylantern/sturm"
	"skylantern/wide"
)

// The tests of P4.5 and P4.6. (That Prove has a proof just if there is one is looked at with the tests of Negative.)

// plain and sturms return a part between ratios of ints.
func plain(a, b, c, d int) api.SignPart {
	return api.SignPart{Kind: api.SignPlain, From: ratio(a, b), To: ratio(c, d)}
}

func sturms(a, b, c, d int) api.SignPart {
	return api.SignPart{Kind: api.SignSturm, From: ratio(a, b), To: ratio(c, d)}
}

func TestCheckExamples(t *testing.T) {
	square, third := ints(1, -2, 1), ints(1, -6, 9)
	for i, c := range []struct {
		p     api.Poly
		proof []api.SignPart
		want  api.Errno
	}{
		{square, []api.SignPart{sturms(0, 1, 2, 1)}, api.OK},
		{square, []api.SignPart{plain(0, 1, 2, 1)}, api.ErrCheck},
		{square, []api.SignPart{plain(0, 1, 1, 1), plain(1, 1, 2, 1)}, api.OK},
		{square, []api.SignPart{plain(0, 1, 1, 1), sturms(1, 1, 2, 1)}, api.OK},
		{square, []api.SignPart{sturms(0, 1, 1, 2), plain(1, 2, 2, 1)}, api.ErrCheck},
		{square, []api.SignPart{plain(0, 1, 1, 1), plain(1, 1, 1, 1), sturms(1, 1, 1, 1), plain(1, 1, 2, 1)}, api.OK},
		{third, []api.SignPart{sturms(0, 1, 2, 1)}, api.OK},
		{third, []api.SignPart{plain(0, 1, 1, 3), plain(1, 3, 2, 1)}, api.OK},
		{third, []api.SignPart{plain(0, 1, 1, 4), sturms(1, 4, 1, 2), plain(1, 2, 2, 1)}, api.OK},
		{third, []api.SignPart{plain(0, 1, 1, 4), plain(1, 4, 1, 2), plain(1, 2, 2, 1)}, api.ErrCheck},
		{ints(1, 1), []api.SignPart{plain(0, 1, 2, 1)}, api.OK},
		{ints(0, 1), []api.SignPart{plain(0, 1, 2, 1)}, api.OK},
		{ints(0, 1), []api.SignPart{sturms(0, 1, 2, 1)}, api.OK},
		{ints(0, 0, 0, 1), []api.SignPart{sturms(0, 1, 2, 1)}, api.OK},
		{ints(0, 0, 0, -1), []api.SignPart{sturms(0, 1, 2, 1)}, api.ErrCheck},
		{ints(0, 0, -1), []api.SignPart{sturms(0, 1, 2, 1)}, api.ErrCheck},
		{ints(0, 0, -1), []api.SignPart{sturms(0, 1, 0, 1), sturms(0, 1, 2, 1)}, api.ErrCheck},
		{ints(-1, 1), []api.SignPart{sturms(0, 1, 2, 1)}, api.ErrCheck},
		{ints(0, -1), []api.SignPart{sturms(0, 1, 2, 1)}, api.ErrCheck},
		{ints(2, -1), []api.SignPart{sturms(0, 1, 2, 1)}, api.OK},
		{ints(2, -1), []api.SignPart{plain(0, 1, 2, 1)}, api.OK},
		// The sign changes twice in between, and the value at both ends is positive.
		{ints(3, -8, 4), []api.SignPart{sturms(0, 1, 2, 1)}, api.ErrCheck},
		{ints(-3), []api.SignPart{plain(0, 1, 2, 1)}, api.ErrCheck},
		{ints(-3), []api.SignPart{sturms(0, 1, 2, 1)}, api.ErrCheck},
		{ints(3), []api.SignPart{plain(0, 1, 2, 1)}, api.OK},
		{ints(3), []api.SignPart{sturms(0, 1, 2, 1)}, api.OK},
		{nil, []api.SignPart{sturms(0, 1, 2, 1)}, api.OK},
		{nil, []api.SignPart{plain(0, 1, 2, 1)}, api.OK},
		{nil, []api.SignPart{plain(0, 1, 1, 1), sturms(1, 1, 1, 1), sturms(1, 1, 2, 1)}, api.OK},
	} {
		if e := sign.Check(c.p, ratio(0, 1), ratio(2, 1), c.proof); e != c.want {
			t.Error(i, e)
		}
		if got := isProof(c.p, ratio(0, 1), ratio(2, 1), c.proof); got != (c.want == api.OK) {
			t.Error("the test itself is wrong", i, got)
		}
	}
}

// TestCheckOfTheOrder looks at parts that are right by themselves, but need not follow each other.
func TestCheckOfTheOrder(t *testing.T) {
	for i, c := range []struct {
		proof []api.SignPart
		want  api.Errno
	}{
		{nil, api.ErrCheck},
		{[]api.SignPart{}, api.ErrCheck},
		{[]api.SignPart{plain(0, 1, 2, 1)}, api.OK},
		{[]api.SignPart{plain(0, 5, 6, 3)}, api.OK},
		{[]api.SignPart{plain(0, 1, 1, 2), plain(2, 4, 2, 1)}, api.OK},
		{[]api.SignPart{plain(0, 1, 1, 1)}, api.ErrCheck},
		{[]api.SignPart{plain(0, 1, 3, 1)}, api.ErrCheck},
		{[]api.SignPart{plain(-1, 1, 2, 1)}, api.ErrCheck},
		{[]api.SignPart{plain(1, 9, 2, 1)}, api.ErrCheck},
		{[]api.SignPart{plain(0, 1, 1, 2), plain(3, 4, 2, 1)}, api.ErrCheck},
		{[]api.SignPart{plain(0, 1, 3, 4), plain(1, 2, 2, 1)}, api.ErrCheck},
		{[]api.SignPart{plain(1, 1, 2, 1), plain(0, 1, 1, 1)}, api.ErrCheck},
		{[]api.SignPart{plain(0, 1, 3, 1), plain(3, 1, 2, 1)}, api.ErrCheck},
		{[]api.SignPart{sturms(0, 1, 3, 1), sturms(3, 1, 2, 1)}, api.ErrCheck},
		{[]api.SignPart{plain(0, 1, 2, 1), plain(2, 1, 3, 1)}, api.ErrCheck},
		{[]api.SignPart{plain(0, 1, 2, 1), plain(2, 1, 2, 1)}, api.OK},
		{[]api.SignPart{sturms(0, 1, 0, 1), plain(0, 1, 2, 1)}, api.OK},
		{[]api.SignPart{plain(0, 1, 2, 1), plain(0, 1, 2, 1)}, api.ErrCheck},
		{[]api.SignPart{plain(2, 1, 2, 1)}, api.ErrCheck},
		{[]api.SignPart{plain(0, 1, 0, 1)}, api.ErrCheck},
	} {
		for _, p := range []api.Poly{ints(9, 1), nil, ints(3)} {
			if e := sign.Check(p, ratio(0, 1), ratio(2, 1), c.proof); e != c.want {
				t.Error(i, e)
			}
		}
	}
	for _, p := range []api.Poly{ints(9, 1), nil} {
		if e := sign.Check(p, ratio(1, 1), ratio(1, 1), nil); e != api.ErrCheck {
			t.Error(e)
		}
		for _, part := range []api.SignPart{plain(1, 1, 1, 1), sturms(2, 2, 1, 1)} {
			if e := sign.Check(p, ratio(1, 1), ratio(3, 3), []api.SignPart{part}); e != api.OK {
				t.Error(e)
			}
		}
	}
}

// randomParts returns parts from one of some ends on to another one; often there is a mistake.
func randomParts(r *rand.Rand, ends []api.Ratio) []api.SignPart {
	var l []api.SignPart
	for i, end := range ends[1:] {
		part := api.SignPart{Kind: api.SignKind(1 + r.Intn(2)), From: ends[i], To: end}
		if r.Intn(30) == 0 {
			part.To = ends[r.Intn(len(ends))]
		}
		l = append(l, part)
	}
	return l
}

// TestCheckSamples holds Check against the definition.
func TestCheckSamples(t *testing.T) {
	r, all := source(), someEnds()
	accepted := 0
	for _, p := range samples() {
		for range 40 {
			first := r.Intn(len(all))
			last := first + r.Intn(len(all)-first)
			ends := slices.Clone(all[first : last+1])
			if r.Intn(3) > 0 {
				ends = slices.DeleteFunc(ends, func(e api.Ratio) bool { return e != all[first] && e != all[last] && r.Intn(2) == 0 })
			}
			if r.Intn(4) == 0 || len(ends) == 1 {
				ends = append(ends, ends[len(ends)-1])
			}
			l := randomParts(r, ends)
			want := api.ErrCheck
			if isProof(p, all[first], all[last], l) {
				want = api.OK
				accepted++
			}
			if e := sign.Check(p, all[first], all[last], l); e != want {
				t.Fatal("Check", short(p), l, e, want)
			}
		}
	}
	if accepted < 300 {
		t.Error("only so many were proofs:", accepted)
	}
}

func TestManyParts(t *testing.T) {
	l := slices.Repeat([]api.SignPart{plain(1, 1, 1, 1)}, sign.MaxParts)
	l[0].From, l[sign.MaxParts-1].To = ratio(0, 1), ratio(2, 1)
	p, zero, two := ints(3, 0, 1), ratio(0, 1), ratio(2, 1)
	if e := sign.Check(p, zero, two, l); e != api.OK {
		t.Error(e)
	}
	more := append(l, plain(2, 1, 2, 1))
	for i, e := range []api.Errno{sign.Check(p, zero, two, more), sign.Check(p, two, zero, more), sign.Check(ints(-1), zero, two, more), sign.Check(api.Poly{power(8000, 0)}, zero, two, more), sign.Check(p, zero, two, make([]api.SignPart, 1<<20))} {
		if e != api.ErrArg {
			t.Error(i, e)
		}
	}
}

func TestErrorsOfCheck(t *testing.T) {
	p, zero, two, large := ints(3, 0, 1), ratio(0, 1), ratio(2, 1), api.Poly{power(8000, 0)}
	good := plain(0, 1, 2, 1)
	var wrong []api.SignPart
	for _, kind := range []api.SignKind{0, 3, -1, 1 << 40} {
		wrong = append(wrong, api.SignPart{Kind: kind, From: zero, To: two})
	}
	for _, r := range invalidRatios() {
		wrong = append(wrong, api.SignPart{Kind: api.SignPlain, From: r, To: two}, api.SignPart{Kind: api.SignSturm, From: zero, To: r})
	}
	for i, part := range wrong {
		for _, l := range [][]api.SignPart{{part}, {good, part}, {part, good}, {plain(5, 1, 3, 1), part}} {
			for _, q := range []api.Poly{p, nil, ints(-1), large} {
				if e, f := sign.Check(q, zero, two, l), sign.Check(q, two, zero, l); e != api.ErrArg || f != api.ErrArg {
					t.Error(i, e, f)
				}
			}
		}
	}
	// Ends of a proof that do not fit come after the order of a and b, and before what the proof says.
	top := power(sturm.MaxEnd, 0)
	for i, end := range []api.Ratio{{Num: top, Den: wide.Of(1)}, {Num: wide.Of(1), Den: top}, {Num: top, Den: top}, {Num: opposite(top), Den: wide.Of(3)}} {
		for _, part := range []api.SignPart{{Kind: api.SignPlain, From: end, To: two}, {Kind: api.SignSturm, From: zero, To: end}} {
			for _, l := range [][]api.SignPart{{part}, {good, part}, {plain(5, 1, 6, 1), part}} {
				if e, f := sign.Check(p, zero, two, l), sign.Check(p, two, zero, l); e != api.ErrFull || f != api.ErrRange {
					t.Error(i, e, f)
				}
			}
		}
	}
}

// TestCheckWithTheLargestEnds looks at proofs whose parts have ends of the greatest sizes that fit.
func TestCheckWithTheLargestEnds(t *testing.T) {
	ends, r := largeEnds(), source()
	for _, degree := range []int{0, 1, 2, 7, 24} {
		q := randomPoly(r, degree/2, most(degree)/2-3, 1)
		p := product(q, q)
		var l []api.SignPart
		for i, end := range ends[1:] {
			l = append(l, api.SignPart{Kind: api.SignSturm, From: ends[i], To: end})
		}
		if e := sign.Check(p, ends[0], ends[len(ends)-1], l); e != api.OK {
			t.Error(degree, e)
		}
		l[3].Kind = api.SignPlain
		want := api.ErrCheck
		if shiftedAtLeastZero(ratsOf(p), ratOf(l[3].From), ratOf(l[3].To)) {
			want = api.OK
		}
		if e := sign.Check(p, ends[0], ends[len(ends)-1], l); e != want {
			t.Error(degree, e, want)
		}
	}
}
