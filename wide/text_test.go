package wide_test

import (
	"strings"
	"testing"

	"skylantern/api"
	"skylantern/wide"
)

// P1.6

func TestTextParse(t *testing.T) {
	for _, w := range samples() {
		want := bigOf(w).String()
		text, e := wide.Text(w)
		if text != want || e != api.OK {
			t.Fatal("Text", short(w), text, e)
		}
		got, e := wide.Parse(text)
		if got != w || e != api.OK {
			t.Fatal("Parse", short(w), short(got), e)
		}
	}
}

func TestTextsAroundChunks(t *testing.T) {
	texts := []string{"0", "7", "-10", "-18446744073709551616", "1000000000000000000000000000000000000000"}
	for n := 1; n <= 60; n++ {
		texts = append(texts, "1"+strings.Repeat("0", n), strings.Repeat("9", n), "-5"+strings.Repeat("0", n)+"1")
	}
	for _, s := range texts {
		w, e := wide.Parse(s)
		if e != api.OK || !wide.Valid(w) || bigOf(w).String() != s {
			t.Error("Parse", s, short(w), e)
		}
		if text, e := wide.Text(w); text != s || e != api.OK {
			t.Error("Text", s, text, e)
		}
	}
	if w, _ := wide.Parse("-18446744073709551616"); wide.Len(w) != 65 {
		t.Error("Len", wide.Len(w))
	}
}

func TestParseErrors(t *testing.T) {
	long := strings.Repeat("1", 1<<20)
	for _, s := range []string{"", "-", "-0", "00", "007", "-01", "+1", "--1", "1-", " 1", "1 ", "1a", "1_0", "0x1", "1.0", "/", ":", "1/", "1:", "\x00", "\xff1", "\u0661", long + "x", "0" + long} {
		w, e := wide.Parse(s)
		expectError(t, "Parse "+s[:min(len(s), 20)], w, e, api.ErrFormat)
	}
	over := bigOf(power(wide.MaxBits, 0)).String()
	for _, s := range []string{over, "-" + over, "1" + strings.Repeat("0", len(over)), long, "-" + long} {
		w, e := wide.Parse(s)
		expectError(t, "Parse of a long text", w, e, api.ErrFull)
	}
}

func TestTextErrors(t *testing.T) {
	for _, w := range invalid() {
		s, e := wide.Text(w)
		expectError(t, "Text of invalid", s, e, api.ErrArg)
	}
}
