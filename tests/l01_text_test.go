package tests

import (
	"math"
	"math/rand"
	"slices"
	"strconv"
	"strings"
	"testing"
	"unsafe"

	"loop.example/g00676/impl"
)

// oddTexts are texts at the edges of chapter 1, those that are no UTF-8 among them.
func oddTexts() []string {
	return []string{
		"", "\n", "\n\n", "\n\n\n", "a", "a\n", "a\n\n", "\na", "\n\na", "a\nb", "a\nb\n", "a\n\nb", "a\r\nb\r\n",
		" ", "\t", " \t \t", "  ", "\t\t", " a", "a ", "a b", "a\tb", "\ta \tb\t", "a\nb c\n d", "\v\f\r", "a\vb\fc\rd", "\x00", " \x00 ",
		"\u00a0", "a\u00a0b", "a\u2003b", "a\u0085b", "a\u2028b", "\x85", "a\xa0b", "\xff", "\xff \xfe\n\xfd", "\xc3", "\xc3\n\xa9", "\xe2\x80 \xa8", "\xf0\x9f\t\x98\n\x80",
		"é", "é è\nê", "\ufffd \ufffd", strings.Repeat("\n", impl.MaxText+1), strings.Repeat("a ", impl.MaxText),
		"0", "-0", "+1", "00", "01", "1 ", " 1", "1_0", "0x1", "٣", "12a", "a12", "999999999", "1000000000",
	}
}

func mixedText(r *rand.Rand, signs string, most int) string {
	b := make([]byte, r.Intn(most+1))
	for i := range b {
		b[i] = signs[r.Intn(len(signs))]
	}
	return string(b)
}

func anyText(r *rand.Rand) string {
	b := make([]byte, r.Intn(12))
	for i := range b {
		b[i] = byte(r.Intn(256))
	}
	return string(b)
}

// sampleTexts are the odd ones and chance ones: of any bytes, and of few that meet often.
func sampleTexts() []string {
	r := rand.New(rand.NewSource(1))
	list := oddTexts()
	for range 3000 {
		list = append(list, anyText(r), mixedText(r, "a\n \t", 8), mixedText(r, "a\n \t\xc3\xa9\xff", 10))
	}
	return list
}

func TestConstantsOfTexts(t *testing.T) {
	if impl.MaxText != 4000 || impl.MaxSmall != 1000000000 || impl.MaxName != 12 {
		t.Error(impl.MaxText, impl.MaxSmall, impl.MaxName)
	}
}

func TestDecTextAtEdges(t *testing.T) {
	for n, want := range map[int]string{
		0: "0", 1: "1", -1: "-1", 9: "9", 10: "10", -10: "-10", 100: "100", 999999999: "999999999", -999999999: "-999999999", 1000000000: "1000000000",
		math.MaxInt: "9223372036854775807", math.MinInt: "-9223372036854775808", math.MinInt + 1: "-9223372036854775807",
	} {
		if got := impl.DecText(n); got != want {
			t.Errorf("DecText of %d: %q, wanted %q", n, got, want)
		}
	}
}

func TestDecTextOfManyNumbers(t *testing.T) {
	r := rand.New(rand.NewSource(2))
	for range 5000 {
		n := int(r.Uint64()) >> r.Intn(64)
		if got, want := impl.DecText(n), strconv.Itoa(n); got != want {
			t.Errorf("DecText of %d: %q", n, got)
		}
	}
}

func TestNumbersComeBackFromTheirTexts(t *testing.T) {
	r := rand.New(rand.NewSource(3))
	list := []int{0, 1, 9, 10, 11, 99, 100, 101, 99999999, 100000000, 999999998, 999999999}
	for n := range 2000 {
		list = append(list, n, r.Intn(1000000000), r.Intn(1000000000)>>r.Intn(30))
	}
	for _, n := range list {
		if got := impl.ReadDec(impl.DecText(n)); got != n {
			t.Errorf("%d comes back as %d", n, got)
		}
	}
}

func TestNumbersBeyondDoNotComeBack(t *testing.T) {
	for _, n := range []int{-1, -9, -999999999, 1000000000, 1000000001, 4294967296, 4294967297, math.MaxInt, math.MinInt} {
		if got := impl.ReadDec(impl.DecText(n)); got != -1 {
			t.Errorf("%d is told as %d", n, got)
		}
	}
}

func TestTextsThatAreNoNumber(t *testing.T) {
	for _, s := range []string{
		"", "00", "01", "012", "000000000", "0999999999", "-", "+", "-0", "-1", "+0", "+1", "--1", "1-", "1000000000", "1234567890", "9999999999", "0000000001",
		"18446744073709551616", "18446744073709551617", strings.Repeat("1", 5000), " 1", "1 ", "1\n", "\n", "1.0", "1e3", "0x1", "1_0", "a", "1a", "/", ":", "1/", "1:",
		"\x00", "1\x00", "٣", "３", "\xb1", "1\xff", "é",
	} {
		if got := impl.ReadDec(s); got != -1 {
			t.Errorf("ReadDec of %q: %d", s, got)
		}
	}
}

func TestReadDecTakesOnlyWhatDecTextTells(t *testing.T) {
	r := rand.New(rand.NewSource(4))
	list := sampleTexts()
	for range 5000 {
		list = append(list, mixedText(r, "0123456789", 11), mixedText(r, "019-+ ", 4))
	}
	for _, s := range list {
		want := -1
		if n, err := strconv.Atoi(s); err == nil && n >= 0 && n <= 999999999 && strconv.Itoa(n) == s {
			want = n
		}
		if got := impl.ReadDec(s); got != want {
			t.Errorf("ReadDec of %q: %d, wanted %d", s, got, want)
		}
	}
}

func TestLinesAtEdges(t *testing.T) {
	for _, c := range []struct {
		s    string
		want []string
	}{
		{"", nil}, {"\n", []string{""}}, {"\n\n", []string{"", ""}}, {"\n\n\n", []string{"", "", ""}},
		{"a", []string{"a"}}, {"a\n", []string{"a"}}, {"a\n\n", []string{"a", ""}}, {"\na", []string{"", "a"}},
		{"a\nb", []string{"a", "b"}}, {"a\nb\n", []string{"a", "b"}}, {"a\n\nb", []string{"a", "", "b"}},
		{" ", []string{" "}}, {"a\n ", []string{"a", " "}}, {"a\r\nb\r", []string{"a\r", "b\r"}},
		{"\xff\n\xc3\n\xa9", []string{"\xff", "\xc3", "\xa9"}}, {"a\u0085b\u2028c\v\f", []string{"a\u0085b\u2028c\v\f"}},
	} {
		if got := impl.Lines(c.s); !slices.Equal(got, c.want) {
			t.Errorf("Lines of %q: %q, wanted %q", c.s, got, c.want)
		}
	}
}

func TestLinesPutTogetherAreTheText(t *testing.T) {
	for _, s := range sampleTexts() {
		want := strings.Split(s, "\n")
		if want[len(want)-1] == "" {
			want = want[:len(want)-1]
		}
		if got := impl.Lines(s); !slices.Equal(got, want) {
			t.Errorf("Lines of %q: %q, wanted %q", s, got, want)
		}
	}
}

func TestWordsAtEdges(t *testing.T) {
	for _, c := range []struct {
		s    string
		want []string
	}{
		{"", nil}, {" ", nil}, {"\t", nil}, {" \t \t ", nil}, {"a", []string{"a"}}, {" a", []string{"a"}}, {"a\t", []string{"a"}},
		{" a\tbc  d", []string{"a", "bc", "d"}}, {"a \tb", []string{"a", "b"}}, {"a\nb c", []string{"a\nb", "c"}}, {"\n", []string{"\n"}}, {" \r ", []string{"\r"}},
		{"a\u00a0b c", []string{"a\u00a0b", "c"}}, {"\x85 \xa0", []string{"\x85", "\xa0"}}, {"\xe2\x80 \x89", []string{"\xe2\x80", "\x89"}}, {"\v\f", []string{"\v\f"}},
	} {
		if got := impl.Words(c.s); !slices.Equal(got, c.want) {
			t.Errorf("Words of %q: %q, wanted %q", c.s, got, c.want)
		}
	}
}

func TestWordsAreAsLongAsTheyMayBe(t *testing.T) {
	for _, s := range sampleTexts() {
		var want []string
		for _, p := range strings.Split(strings.ReplaceAll(s, "\t", " "), " ") {
			if p != "" {
				want = append(want, p)
			}
		}
		if got := impl.Words(s); !slices.Equal(got, want) {
			t.Errorf("Words of %q: %q, wanted %q", s, got, want)
		}
	}
}

func TestNamesByLength(t *testing.T) {
	for n := range 3 * impl.MaxName {
		want := n >= 1 && n <= impl.MaxName
		for _, s := range []string{strings.Repeat("a", n), ("Z" + strings.Repeat("_", 3*impl.MaxName))[:n], ("q" + strings.Repeat("9", 3*impl.MaxName))[:n]} {
			if got := impl.NameOk(s); got != want {
				t.Errorf("NameOk of %q: %v", s, got)
			}
		}
	}
}

func TestNamesByByte(t *testing.T) {
	for b := range 256 {
		sign := string([]byte{byte(b)})
		letter := b >= 'A' && b <= 'Z' || b >= 'a' && b <= 'z'
		inside := letter || b >= '0' && b <= '9' || b == '_'
		if impl.NameOk(sign) != letter || impl.NameOk(sign+"a") != letter {
			t.Errorf("byte %d ahead", b)
		}
		if impl.NameOk("a"+sign) != inside || impl.NameOk("a"+sign+"a") != inside || impl.NameOk("abcdefghijk"+sign) != inside {
			t.Errorf("byte %d inside", b)
		}
	}
}

func TestNamesWithSignsBeyond127(t *testing.T) {
	for _, s := range []string{"é", "aé", "éa", "a\xff", "\xffa", "a\xc3", "aé_9", "Ａ", "aＡ", "a٣", "a\ufffd", "aaaaaaaaaaaé", "aaaaaaaaaaé"} {
		if impl.NameOk(s) {
			t.Errorf("NameOk of %q", s)
		}
	}
}

func TestBeforeAtEdges(t *testing.T) {
	ascending := []string{"", "\x00", "\x00\x00", "\x00a", "\n", " ", "0", "00", "10", "2", "A", "Z", "Za", "_", "a", "a\x00", "a ", "aZ", "aa", "ab", "b", "z", "\x7f", "\x80", "\xc3", "é", "\xe2\x80", "\ufffd", "😀", "\xff", "\xff\x00", "\xff\xff"}
	for i, a := range ascending {
		for j, b := range ascending {
			if impl.Before(a, b) != (i < j) {
				t.Errorf("Before of %q and %q: %v", a, b, i >= j)
			}
		}
	}
}

func beforeByBytes(a string, b string) bool {
	for i := 0; i < len(a) && i < len(b); i++ {
		if a[i] != b[i] {
			return a[i] < b[i]
		}
	}
	return len(a) < len(b)
}

func TestTextsAreInOneOrder(t *testing.T) {
	list := sampleTexts()
	r := rand.New(rand.NewSource(5))
	for range 20000 {
		a, b, c := list[r.Intn(len(list))], list[r.Intn(len(list))], list[r.Intn(len(list))]
		if impl.Before(a, b) != beforeByBytes(a, b) {
			t.Errorf("Before of %q and %q", a, b)
		}
		if a != b && impl.Before(a, b) == impl.Before(b, a) || impl.Before(a, a) {
			t.Errorf("%q and %q are in no order", a, b)
		}
		if impl.Before(a, b) && impl.Before(b, c) && !impl.Before(a, c) {
			t.Errorf("%q, %q and %q are in no order", a, b, c)
		}
		if a != "" && (!impl.Before(b, b+a) || impl.Before(b+a, b)) {
			t.Errorf("%q begins %q", b, b+a)
		}
	}
}

func TestGcdAndLcmAtEdges(t *testing.T) {
	const m = impl.MaxSmall
	for _, c := range []struct{ a, b, gcd, lcm int }{
		{0, 0, 0, 0}, {0, 1, 1, 0}, {0, 5, 5, 0}, {0, -5, 5, 0}, {0, m, m, 0}, {0, -m, m, 0}, {1, 1, 1, 1}, {1, -1, 1, 1}, {-1, -1, 1, 1},
		{12, 18, 6, 36}, {12, -18, 6, 36}, {-12, -18, 6, 36}, {4, 6, 2, 12}, {7, 7, 7, 7}, {7, -7, 7, 7}, {3, 9, 3, 9},
		{m, m, m, m}, {m, -m, m, m}, {-m, -m, m, m}, {m, 1, 1, m}, {-m, 1, 1, m}, {m, m - 1, 1, 999999999000000000}, {-m, 1 - m, 1, 999999999000000000},
		{m, m - 2, 2, 499999999000000000}, {701408733, 433494437, 1, 701408733 * 433494437},
		{m + 1, 5, 0, 0}, {-m - 1, 5, 0, 0}, {m + 1, m + 1, 0, 0}, {m + 1, 0, 0, 0}, {-m - 1, 0, 0, 0}, {2 * m, m, 0, 0},
		{math.MinInt, 0, 0, 0}, {math.MinInt, 1, 0, 0}, {math.MinInt, -1, 0, 0}, {math.MinInt, math.MinInt, 0, 0}, {math.MinInt, math.MaxInt, 0, 0}, {math.MaxInt, 7, 0, 0}, {math.MaxInt, 0, 0, 0},
	} {
		for _, p := range [][2]int{{c.a, c.b}, {c.b, c.a}} {
			if got := impl.Gcd(p[0], p[1]); got != c.gcd {
				t.Errorf("Gcd of %d and %d: %d, wanted %d", p[0], p[1], got, c.gcd)
			}
			if got := impl.Lcm(p[0], p[1]); got != c.lcm {
				t.Errorf("Lcm of %d and %d: %d, wanted %d", p[0], p[1], got, c.lcm)
			}
		}
	}
}

func TestGcdAndLcmOfLittleNumbers(t *testing.T) {
	for a := -40; a <= 40; a++ {
		for b := -40; b <= 40; b++ {
			gcd, lcm := 0, 0
			for d := 1; d <= 40; d++ {
				if (a != 0 || b != 0) && a%d == 0 && b%d == 0 {
					gcd = d
				}
			}
			for k := 1600; k >= 1 && a != 0 && b != 0; k-- {
				if k%a == 0 && k%b == 0 {
					lcm = k
				}
			}
			if impl.Gcd(a, b) != gcd || impl.Lcm(a, b) != lcm {
				t.Errorf("of %d and %d: %d and %d, wanted %d and %d", a, b, impl.Gcd(a, b), impl.Lcm(a, b), gcd, lcm)
			}
		}
	}
}

func TestGcdAndLcmMakeTheProduct(t *testing.T) {
	r := rand.New(rand.NewSource(6))
	for range 20000 {
		f := 1 + r.Intn(1000)
		a := (r.Intn(2*impl.MaxSmall+1) - impl.MaxSmall) >> r.Intn(31) / f * f
		b := (r.Intn(2*impl.MaxSmall+1) - impl.MaxSmall) >> r.Intn(31) / f * f
		product := a * b
		if product < 0 {
			product = -product
		}
		g, l := impl.Gcd(a, b), impl.Lcm(a, b)
		if g*l != product || g < 0 || l < 0 {
			t.Errorf("of %d and %d: %d and %d", a, b, g, l)
		}
		if g > 0 && (a%g != 0 || b%g != 0 || impl.Gcd(a/g, b/g) != 1) {
			t.Errorf("%d isn't the greatest that divides %d and %d", g, a, b)
		}
	}
}

func TestListsShareNoMemory(t *testing.T) {
	for name, tell := range map[string]func(string) []string{"Lines": impl.Lines, "Words": impl.Words} {
		for _, s := range oddTexts() {
			kept := strings.Clone(s)
			first, second := tell(s), tell(s)
			wanted := slices.Clone(first)
			whole := first[:cap(first)]
			for i := range whole {
				whole[i] = "other"
			}
			if !slices.Equal(second, wanted) || !slices.Equal(tell(s), wanted) || s != kept {
				t.Errorf("%s of %q hangs on an earlier answer", name, s)
			}
		}
	}
}

func inside(part string, s string) bool {
	if part == "" || s == "" {
		return false
	}
	p, from := uintptr(unsafe.Pointer(unsafe.StringData(part))), uintptr(unsafe.Pointer(unsafe.StringData(s)))
	return from <= p && p < from+uintptr(len(s))
}

func TestPartsShareNoMemoryWithTheText(t *testing.T) {
	for name, tell := range map[string]func(string) []string{"Lines": impl.Lines, "Words": impl.Words} {
		for _, s := range oddTexts() {
			for _, part := range tell(s) {
				if inside(part, s) {
					t.Errorf("%s of %q shares its memory", name, s)
				}
			}
		}
	}
}

// A text made over bytes that are written anew tells whether one is kept, or written into.
func TestTextsAreNeitherKeptNorWrittenInto(t *testing.T) {
	for _, s := range oddTexts() {
		b := append([]byte(s), "behind"...)
		text := unsafe.String(unsafe.SliceData(b), len(s))
		lines, words := impl.Lines(text), impl.Words(text)
		impl.ReadDec(text)
		impl.NameOk(text)
		impl.Before(text, text)
		if string(b) != s+"behind" {
			t.Errorf("%q is written into", s)
		}
		for i := range b {
			b[i] = 'x'
		}
		if !slices.Equal(lines, impl.Lines(s)) || !slices.Equal(words, impl.Words(s)) {
			t.Errorf("%q is kept", s)
		}
	}
}

func TestSmallFunctionsAnswerAnything(t *testing.T) {
	numbers := []int{math.MinInt, math.MinInt + 1, -impl.MaxSmall - 1, -impl.MaxSmall, -1, 0, 1, impl.MaxSmall, impl.MaxSmall + 1, math.MaxInt - 1, math.MaxInt}
	for _, a := range numbers {
		for _, b := range numbers {
			if impl.Gcd(a, b) < 0 || impl.Lcm(a, b) < 0 || impl.DecText(a) == "" {
				t.Error(a, b)
			}
		}
	}
	long := strings.Repeat("a1 \n\t\xff", 100000)
	if impl.ReadDec(long) != -1 || impl.NameOk(long) || impl.Before(long, long) || len(impl.Lines(long)) != 100001 || len(impl.Words(long)) != 200001 {
		t.Error("a long text")
	}
}
