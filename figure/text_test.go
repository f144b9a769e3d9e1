package figure_test

import (
	"math"
	"math/rand"
	"regexp"
	"slices"
	"strconv"
	"strings"
	"testing"

	"skylantern/api"
	"skylantern/figure"
)

// P9.3

// examples are texts, and the figures with these texts.
func examples() map[string]api.Figure {
	return map[string]api.Figure{
		"":                                    nil,
		"dots 1 2 3\n":                        {dots(1, 2, 3)},
		"dots 3 0 -1 3 0 -1\n":                {dots(3, 0, -1, 3, 0, -1)},
		"line 2 0 0 0 3 0 0\n":                {line(2, 0, 0, 0, 3, 0, 0)},
		"ring xz 1 10 0 0 0\n":                {ring(api.PlaneXZ, 1, 10, v(0, 0, 0))},
		"ring xy 50 10000 1 2 3\n":            {ring(api.PlaneXY, 50, 10000, v(1, 2, 3))},
		"ring yz 7 80 -1048576 1048576 -10\n": {ring(api.PlaneYZ, 7, 80, v(-far, far, -10))},
		"sphere 3 5 1 2 3\n":                  {sphere(3, 5, v(1, 2, 3))},
		"loop 500 0 0 0 1 0 0 0 1 0\n":        {loop(500, 0, 0, 0, 1, 0, 0, 0, 1, 0)},
		"line 1 0 0 0 0 0 0\ndots 1048576 -1048576 0\n":           {line(1, 0, 0, 0, 0, 0, 0), dots(far, -far, 0)},
		"sphere 50 10000 9 -9 0\nloop 9 7 7 7 7 7 7 7 7 7\n":      {sphere(50, 10000, v(9, -9, 0)), loop(9, 7, 7, 7, 7, 7, 7, 7, 7, 7)},
		"dots 1 2 3\ndots 1 2 3\nring xy 1 1 0 0 0\ndots 4 5 6\n": {dots(1, 2, 3), dots(1, 2, 3), ring(api.PlaneXY, 1, 1, v(0, 0, 0)), dots(4, 5, 6)},
	}
}

// isParsed fails unless Parse returns what is wanted.
func isParsed(t *testing.T, text string, want api.Figure, number int, wantErr api.Errno) {
	t.Helper()
	f, n, e := figure.Parse(text)
	if !same(f, want) || n != number || e != wantErr {
		t.Errorf("%.80q: %v %v %v, not %v %v %v", text, f, n, e, want, number, wantErr)
	}
}

func TestTextAndParseExamples(t *testing.T) {
	for text, f := range examples() {
		if got, e := figure.Text(f); got != text || e != api.OK {
			t.Errorf("%v: %q %v", f, got, e)
		}
		isParsed(t, text, f, 0, api.OK)
	}
}

func TestLinesThatAreNotTexts(t *testing.T) {
	for _, line := range []string{
		"", " ", "x", "dots", "dots ", "dots 1", "dots 1 2", "dots 1 2 ", "dots 1 2 3 ", " dots 1 2 3", "dots  1 2 3", "dots 1  2 3", "dots 1 2 3 4", "dots 1 2 3 4 5", "dots\t1 2 3", "dots 1 2 3\r", "dots 1,2,3", "Dots 1 2 3", "DOTS 1 2 3", "dot 1 2 3", "dotss 1 2 3", "1 1 2 3", "1 2 3",
		"dots -0 0 0", "dots 0 -0 0", "dots 0 0 -0", "dots +1 2 3", "dots 01 2 3", "dots 00 2 3", "dots -01 2 3", "dots 1_0 2 3", "dots 0x1 2 3", "dots 1.0 2 3", "dots 1e1 2 3", "dots - 2 3", "dots --1 2 3", "dots \u0661 2 3", "dots 1 2 3\x00", "dots a b c", "dots 1 2 x", "dots 1 x 3",
		"dots 1048577 0 0", "dots 0 -1048577 0", "dots 0 0 9999999", "dots 9223372036854775808 0 0", "dots 18446744073709551616 0 0", "dots -9223372036854775809 0 0", "dots 18446744073709551617 0 0", "dots 4294967297 0 0",
		"line 1 0 0 0", "line 0 0 0 0 1 0 0", "line -1 0 0 0 1 0 0", "line 501 0 0 0 1 0 0", "line 0 0 0 1 0 0", "line 01 0 0 0 1 0 0", "line +1 0 0 0 1 0 0", "line 1 0 0 0 1 0", "line", "line 1", "line xy 0 0 0 1 0 0", "line 18446744073709551617 0 0 0 1 0 0", "lines 1 0 0 0 1 0 0",
		"loop 2 0 0 0 1 0 0", "loop 0 0 0 0 1 0 0 0 1 0", "loop 501 0 0 0 1 0 0 0 1 0", "loop 0 0 0 1 0 0 0 1 0", "loop 2 0 0 0 1 0 0 0 1", "loop", "loop 2",
		"ring yx 1 1 0 0 0", "ring 1 1 0 0 0", "ring XY 1 1 0 0 0", "ring  1 1 0 0 0", "ring xx 1 1 0 0 0", "ring zx 1 1 0 0 0", "ring 0 1 1 0 0 0", "ring xy 0 1 0 0 0", "ring xy 51 1 0 0 0", "ring xy 1 0 0 0 0", "ring xy 1 10001 0 0 0", "ring xy -1 1 0 0 0", "ring xy 1 -1 0 0 0", "ring xy 1 1", "ring xy 1 1 0 0 0 0 0 0", "ring xy 1 1 0 0", "ring xy", "ring", "ring xy 1 0 0 0", "ring xy 01 1 0 0 0", "ring xyz 1 1 0 0 0", "ring 1 1 xy 0 0 0",
		"sphere 0 1 0 0 0", "sphere 51 1 0 0 0", "sphere 1 0 0 0 0", "sphere 1 10001 0 0 0", "sphere xy 1 1 0 0 0", "sphere 1 1", "sphere 1 1 0 0 0 0 0 0", "sphere 1 0 0 0", "sphere", "spheres 1 1 0 0 0", "sphere -1 1 0 0 0",
	} {
		for i := range 3 {
			isParsed(t, strings.Repeat("dots 1 2 3\n", i)+line+"\n", nil, i+1, api.ErrFormat)
			isParsed(t, strings.Repeat("dots 1 2 3\n", i)+line+"\nsphere 1 1 0 0 0\nx\n", nil, i+1, api.ErrFormat)
		}
	}
}

func TestTheLastLineHasALineFeed(t *testing.T) {
	for text, f := range examples() {
		if text == "" {
			continue
		}
		isParsed(t, strings.TrimSuffix(text, "\n"), nil, len(f), api.ErrFormat)
		isParsed(t, text+"\n", nil, len(f)+1, api.ErrFormat)
		isParsed(t, text+"x", nil, len(f)+1, api.ErrFormat)
		isParsed(t, text+"dots 1 2 3", nil, len(f)+1, api.ErrFormat)
		isParsed(t, "\n"+text, nil, 1, api.ErrFormat)
	}
}

func TestNumberOfLines(t *testing.T) {
	for many := range figure.MaxShapes + 1 {
		text := strings.Repeat("dots 1 2 3\n", many)
		isParsed(t, text, slices.Repeat(api.Figure{dots(1, 2, 3)}, many), 0, api.OK)
		want := api.ErrFormat
		if many == figure.MaxShapes {
			want = api.ErrFull
		}
		for _, last := range []string{"\n", "x\n", "x", "dots 1 2 3", "dots 1 2\n", "x\nx\n", "\ndots 1 2 3\n"} {
			isParsed(t, text+last, nil, many+1, want)
		}
	}
	text := strings.Repeat("dots 1 2 3\n", figure.MaxShapes)
	for _, rest := range []string{"dots 1 2 3\n", "dots 1 2 3\nx\n", text, text + "x"} {
		isParsed(t, text+rest, nil, figure.MaxShapes+1, api.ErrFull)
	}
	for i := range figure.MaxShapes {
		isParsed(t, strings.Repeat("dots 1 2 3\n", i)+"dots 1 2\n"+text, nil, i+1, api.ErrFormat)
	}
}

func TestTextsOfManyCorners(t *testing.T) {
	for _, c := range []struct {
		head  string
		least int
		s     api.Shape
	}{{"dots", 1, dots()}, {"line 500", 2, line(500)}, {"loop 499", 3, loop(499)}, {"ring xz 2 3", 1, ring(api.PlaneXZ, 2, 3, v(0, 0, 0))}, {"sphere 2 3", 1, sphere(2, 3, v(0, 0, 0))}} {
		for many := range figure.MaxCorners + 20 {
			text := c.head + strings.Repeat(" 1 2 3", many) + "\n"
			if many < c.least || many > figure.MaxCorners || many > 1 && c.s.Radius > 0 {
				isParsed(t, text, nil, 1, api.ErrFormat)
				continue
			}
			isParsed(t, text, api.Figure{repeated(c.s, many)}, 0, api.OK)
			for _, other := range []string{" 1\n", " 1 2\n", " \n", " 1 2 x\n"} {
				isParsed(t, strings.Replace(text, "\n", other, 1), nil, 1, api.ErrFormat)
			}
		}
	}
	isParsed(t, "dots"+strings.Repeat(" -1048576", 600)+"\n", api.Figure{{Kind: api.ShapeDots, Corners: slices.Repeat(p(-far, -far, -far), 200)}}, 0, api.OK)
}

func TestParseOfLongTexts(t *testing.T) {
	const long = 1 << 24
	for _, part := range []string{" ", "0", "9", "x", " 1", " 1 2 3", "dots ", "\x00"} {
		for _, head := range []string{"", "dots 1 2 3", "line ", "ring ", "ring xy ", "sphere 1 1 "} {
			isParsed(t, head+strings.Repeat(part, long/len(part))+"\n", nil, 1, api.ErrFormat)
		}
	}
	isParsed(t, strings.Repeat("\n", long), nil, 1, api.ErrFormat)
	isParsed(t, strings.Repeat("dots 1 2 3\n", long/11), nil, figure.MaxShapes+1, api.ErrFull)
}

// The texts of shapes, but for the limits of their numbers and corners.
const (
	number = ` (?:0|-?[1-9][0-9]*)`
	point  = number + number + number
)

var form = regexp.MustCompile(`\A(?:(dots)|(line|loop)(` + number + `)|(ring) (?:xy|xz|yz)(` + number + number + `)|(sphere)(` + number + number + `))((?:` + point + `)+)\z`)

// isText reports whether a line is the text of a valid shape.
func isText(line string) bool {
	m := form.FindStringSubmatch(line)
	if m == nil {
		return false
	}
	within := func(words string, limits ...int) bool {
		for i, w := range strings.Fields(words) {
			limit := limits[min(i, len(limits)-1)]
			if n, e := strconv.Atoi(w); e != nil || n > limit || n < -far || n < 1 && limit < far {
				return false
			}
		}
		return true
	}
	corners := len(strings.Fields(m[8])) / 3
	least := map[string]int{"dots": 1, "line": 2, "loop": 3, "ring": 1, "sphere": 1}[strings.Fields(line)[0]]
	most := 200
	if m[4]+m[6] != "" {
		most = 1
	}
	return corners >= least && corners <= most && within(m[3], 500) && within(m[5], 50, 10000) && within(m[7], 50, 10000) && within(m[8], far)
}

// firstBad returns the number of the first line of a text for which there is an error, and the error.
func firstBad(text string) (int, api.Errno) {
	lines := strings.SplitAfter(text, "\n")
	for i, line := range lines {
		switch {
		case line == "":
		case i == 50:
			return 51, api.ErrFull
		case !strings.HasSuffix(line, "\n") || !isText(line[:len(line)-1]):
			return i + 1, api.ErrFormat
		}
	}
	return 0, api.OK
}

// changed returns a text with a change or two.
func changed(r *rand.Rand, text string) string {
	out := []byte(text)
	words := []string{" ", "\n", "0", "-", "1", "9", "x", "xy", "dots ", "ring", "line 2", "1048577", " 0 0 0", "+", "10001", "\r", "\t", "501"}
	for range 1 + r.Intn(2) {
		i, j := r.Intn(len(out)+1), r.Intn(len(out)+1)
		switch r.Intn(4) {
		case 0:
			out = slices.Insert(out, i, []byte(words[r.Intn(len(words))])...)
		case 1:
			out = slices.Delete(out, min(i, j), max(i, j))
		case 2:
			out = slices.Concat(out[:i], out[min(i, j):max(i, j)], out[i:])
		default:
			if i < len(out) {
				out[i] = "0123456789- \nxyzdotsline"[r.Intn(24)]
			}
		}
	}
	return string(out)
}

func TestParseOfChangedTexts(t *testing.T) {
	r, seen := source(), map[api.Errno]int{}
	for range 60000 {
		var f api.Figure
		for range 1 + r.Intn(3) {
			f = append(f, randomShape(r))
		}
		text, e := figure.Text(f)
		if e != api.OK {
			t.Fatal(f, e)
		}
		text = changed(r, text)
		want, wantErr := firstBad(text)
		f, n, e := figure.Parse(text)
		if n != want || e != wantErr || e != api.OK && f != nil {
			t.Fatalf("%q: %v %v %v, not %v %v", text, f, n, e, want, wantErr)
		}
		if again, f := figure.Text(f); e == api.OK && (again != text || f != api.OK) {
			t.Fatalf("%q: %q %v", text, again, f)
		}
		seen[e]++
	}
	if seen[api.OK] < 2000 || seen[api.ErrFormat] < 2000 {
		t.Error(seen)
	}
}

func TestNumbersOfTexts(t *testing.T) {
	for _, n := range []int{0, 1, -1, 9, 10, -10, 99, 100, 1000, -1000, 1048575, far, -1048575, -far, 65536, -524288} {
		digits := strconv.Itoa(n)
		isParsed(t, "dots "+digits+" 0 0\n", api.Figure{dots(n, 0, 0)}, 0, api.OK)
		isParsed(t, "dots 0 "+digits+" 0\n", api.Figure{dots(0, n, 0)}, 0, api.OK)
		isParsed(t, "dots 0 0 "+digits+"\n", api.Figure{dots(0, 0, n)}, 0, api.OK)
	}
	for _, n := range []int{far + 1, -far - 1, math.MaxInt, math.MinInt, 1 << 32} {
		isParsed(t, "dots "+strconv.Itoa(n)+" 0 0\n", nil, 1, api.ErrFormat)
	}
	for n := range 600 {
		digits, want := strconv.Itoa(n), api.Figure{line(n, 0, 0, 0, 1, 1, 1)}
		if n == 0 || n > 500 {
			isParsed(t, "line "+digits+" 0 0 0 1 1 1\n", nil, 1, api.ErrFormat)
			continue
		}
		isParsed(t, "line "+digits+" 0 0 0 1 1 1\n", want, 0, api.OK)
	}
}
