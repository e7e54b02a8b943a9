package tests

import (
	"math"
	"math/rand"
	"regexp"
	"slices"
	"strconv"
	"strings"
	"testing"
	"unsafe"

	"loop.example/g00676/impl"
)

const signsOfWords = "+-*/^()="

func word(kind int, text string, at int) impl.Token {
	return impl.Token{Kind: kind, Text: text, At: at}
}

// toldWords writes words as the tables below have them: n, d or s for the Kind, the Text, @ and At.
func toldWords(list []impl.Token) string {
	kinds := map[int]string{impl.TName: "n", impl.TNum: "d", impl.TSign: "s"}
	var parts []string
	for _, w := range list {
		parts = append(parts, kinds[w.Kind]+w.Text+"@"+strconv.Itoa(w.At))
	}
	return strings.Join(parts, " ")
}

var (
	formOfName   = regexp.MustCompile(`^[A-Za-z][A-Za-z0-9_]*`)
	formOfNumber = regexp.MustCompile(`^[0-9]+(/[0-9]+|(\.[0-9]+)?(e-?[0-9]{1,3})?)`)
)

func takenByWords(number string) bool {
	value, ok := readByWords(number)
	return ok && fitsRatOracle(value)
}

// lexByWords is Lex in another way: by the library's forms, and by chapter 3's second reckoning.
func lexByWords(s string) ([]impl.Token, int) {
	if len(s) > impl.MaxText {
		return nil, 1
	}
	var list []impl.Token
	for at := 0; at < len(s); {
		if s[at] == 32 || s[at] == 9 {
			at++
			continue
		}
		rest := s[at:]
		name, number := formOfName.FindString(rest), formOfNumber.FindString(rest)
		var next impl.Token
		switch {
		case len(list) == impl.MaxWords:
		case name != "" && len(name) <= 12:
			next = word(0, name, at+1)
		case number != "" && takenByWords(number):
			next = word(1, number, at+1)
		case strings.IndexByte(signsOfWords, rest[0]) >= 0:
			next = word(2, rest[:1], at+1)
		}
		if next.Text == "" {
			return nil, at + 1
		}
		list = append(list, next)
		at += len(next.Text)
	}
	return list, 0
}

func checkLex(t *testing.T, s string) {
	t.Helper()
	got, place := impl.Lex(s)
	want, wantPlace := lexByWords(s)
	if place != wantPlace || !slices.Equal(got, want) {
		t.Errorf("Lex of %.200q: %s and %d, wanted %s and %d", s, toldWords(got), place, toldWords(want), wantPlace)
	}
}

func checkWords(t *testing.T, s string, want string) {
	t.Helper()
	if got, place := impl.Lex(s); place != 0 || toldWords(got) != want {
		t.Errorf("Lex of %.200q: %s and %d, wanted %s", s, toldWords(got), place, want)
	}
	checkLex(t, s)
}

func checkPlace(t *testing.T, s string, want int) {
	t.Helper()
	if got, place := impl.Lex(s); place != want || len(got) != 0 {
		t.Errorf("Lex of %.200q: %s and %d, wanted nothing and %d", s, toldWords(got), place, want)
	}
	checkLex(t, s)
}

func TestConstantsOfWords(t *testing.T) {
	if impl.TName != 0 || impl.TNum != 1 || impl.TSign != 2 || impl.MaxWords != 200 {
		t.Error(impl.TName, impl.TNum, impl.TSign, impl.MaxWords)
	}
}

func TestWordsOfFormulas(t *testing.T) {
	for _, c := range [][2]string{
		{"", ""}, {" ", ""}, {"\t", ""}, {" \t\t  ", ""},
		{"v", "nv@1"}, {" v ", "nv@2"}, {"\tv\t", "nv@2"}, {"v g", "nv@1 ng@3"}, {"v\t \tg", "nv@1 ng@5"},
		{"v_2 = -3/4*g^1.5e-2 (2e x", "nv_2@1 s=@5 s-@7 d3/4@8 s*@11 ng@12 s^@13 d1.5e-2@14 s(@21 d2@22 ne@23 nx@25"},
		{"a+b", "na@1 s+@2 nb@3"}, {"a=b=c", "na@1 s=@2 nb@3 s=@4 nc@5"}, {"((a))", "s(@1 s(@2 na@3 s)@4 s)@5"},
		{"+-*/^()=", "s+@1 s-@2 s*@3 s/@4 s^@5 s(@6 s)@7 s=@8"}, {"+ - * / ^ ( ) =", "s+@1 s-@3 s*@5 s/@7 s^@9 s(@11 s)@13 s=@15"},
		{"--", "s-@1 s-@2"}, {"**", "s*@1 s*@2"}, {"//", "s/@1 s/@2"}, {"==", "s=@1 s=@2"}, {")(", "s)@1 s(@2"},
	} {
		checkWords(t, c[0], c[1])
	}
}

func TestNamesAsWords(t *testing.T) {
	for _, c := range [][2]string{
		{"abcdefghijkl", "nabcdefghijkl@1"}, {"A_0123456789", "nA_0123456789@1"}, {"z___________", "nz___________@1"}, {"a_", "na_@1"}, {"a1", "na1@1"}, {"Z9_a", "nZ9_a@1"}, {"e", "ne@1"}, {"e5", "ne5@1"}, {"E", "nE@1"},
		{"2a", "d2@1 na@2"}, {"2a_3", "d2@1 na_3@2"}, {"12abcdefghijkl", "d12@1 nabcdefghijkl@3"}, {"a1/2", "na1@1 s/@3 d2@4"}, {"abcdefghijkl+m", "nabcdefghijkl@1 s+@13 nm@14"}, {"abcdefghijkl m", "nabcdefghijkl@1 nm@14"},
	} {
		checkWords(t, c[0], c[1])
	}
	for _, c := range []struct {
		s  string
		at int
	}{
		{"abcdefghijklm", 1}, {" abcdefghijklm", 2}, {"v+abcdefghijklm", 3}, {"abcdefghijkl_", 1}, {"abcdefghijkl1", 1}, {"2abcdefghijklm", 2}, {strings.Repeat("a", impl.MaxText), 1}, {"v " + strings.Repeat("_", 30), 3},
		{"_", 1}, {"_x", 1}, {"v + _x", 5}, {"2_", 2}, {"2_x", 2}, {"(_", 2}, {"v.x", 2}, {"v,x", 2}, {"é", 1}, {"aé", 2}, {"a\xff", 2}, {"\xffa", 1}, {"vé x", 2}, {"a\u00a0b", 2}, {"a\ufffd", 2},
	} {
		checkPlace(t, c.s, c.at)
	}
	for n := 1; n < 3*impl.MaxName; n++ {
		name := ("q" + strings.Repeat("a_9Z", impl.MaxName))[:n]
		if n <= impl.MaxName {
			checkWords(t, "("+name+")", "s(@1 n"+name+"@2 s)@"+strconv.Itoa(n+2))
		} else {
			checkPlace(t, "("+name+")", 2)
		}
	}
}

func TestNumbersAsWords(t *testing.T) {
	for _, c := range [][2]string{
		{"0", "d0@1"}, {"7", "d7@1"}, {"123", "d123@1"}, {"007", "d007@1"}, {"000", "d000@1"}, {"-5", "s-@1 d5@2"}, {"+5", "s+@1 d5@2"}, {"1 2", "d1@1 d2@3"},
		{"3/4", "d3/4@1"}, {"03/04", "d03/04@1"}, {"0/7", "d0/7@1"}, {"12/345", "d12/345@1"}, {"6/4", "d6/4@1"}, {"-3/4", "s-@1 d3/4@2"}, {"3/-4", "d3@1 s/@2 s-@3 d4@4"},
		{"3/ 4", "d3@1 s/@2 d4@4"}, {"3 /4", "d3@1 s/@3 d4@4"}, {"3 / 4", "d3@1 s/@3 d4@5"}, {"3/\t4", "d3@1 s/@2 d4@4"}, {"3/", "d3@1 s/@2"}, {"3/v", "d3@1 s/@2 nv@3"}, {"3/e5", "d3@1 s/@2 ne5@3"}, {"3/(4)", "d3@1 s/@2 s(@3 d4@4 s)@5"},
		{"3/4/5", "d3/4@1 s/@4 d5@5"}, {"3//4", "d3@1 s/@2 s/@3 d4@4"}, {"3/4/", "d3/4@1 s/@4"}, {"3/4 /5", "d3/4@1 s/@5 d5@6"}, {"1/2/3/4", "d1/2@1 s/@4 d3/4@5"}, {"v/2/3", "nv@1 s/@2 d2/3@3"}, {"1/2/0", "d1/2@1 s/@4 d0@5"}, {"1/ 0", "d1@1 s/@2 d0@4"}, {"1 /0", "d1@1 s/@3 d0@4"},
		{"1.5", "d1.5@1"}, {"0.0", "d0.0@1"}, {"01.50", "d01.50@1"}, {"1.5v", "d1.5@1 nv@4"}, {"1.5/2", "d1.5@1 s/@4 d2@5"}, {"2 1.5", "d2@1 d1.5@3"}, {"1.5 2.5", "d1.5@1 d2.5@5"},
		{"1e5", "d1e5@1"}, {"1e-5", "d1e-5@1"}, {"1.5e2", "d1.5e2@1"}, {"1.5e-2", "d1.5e-2@1"}, {"1e0", "d1e0@1"}, {"1e-0", "d1e-0@1"}, {"1e00", "d1e00@1"}, {"1e05", "d1e05@1"}, {"2e12", "d2e12@1"},
		{"1e+5", "d1@1 ne@2 s+@3 d5@4"}, {"1e-", "d1@1 ne@2 s-@3"}, {"1e--5", "d1@1 ne@2 s-@3 s-@4 d5@5"}, {"1e-x", "d1@1 ne@2 s-@3 nx@4"}, {"1e- 5", "d1@1 ne@2 s-@3 d5@5"}, {"1e -5", "d1@1 ne@2 s-@4 d5@5"}, {"1e", "d1@1 ne@2"}, {"1e 5", "d1@1 ne@2 d5@4"}, {"1 e5", "d1@1 ne5@3"}, {"1.5e", "d1.5@1 ne@4"},
		{"1e123", "d1e123@1"}, {"1e-123", "d1e-123@1"}, {"1e1234", "d1e123@1 d4@6"}, {"1e-1234", "d1e-123@1 d4@7"}, {"1e12345", "d1e123@1 d45@6"}, {"1e0005", "d1e000@1 d5@6"}, {"1e1234/5", "d1e123@1 d4/5@6"}, {"0e999", "d0e999@1"}, {"0e-9999", "d0e-999@1 d9@7"}, {"1e1231e1231e1", "d1e123@1 d1e123@6 d1e1@11"},
		{"3/4e5", "d3/4@1 ne5@4"}, {"3/4e-5", "d3/4@1 ne@4 s-@5 d5@6"}, {"3/4e", "d3/4@1 ne@4"}, {"1e5/4", "d1e5@1 s/@4 d4@5"}, {"1e-5/4", "d1e-5@1 s/@5 d4@6"}, {"3/4e123e5", "d3/4@1 ne123e5@4"},
		{"1e5x", "d1e5@1 nx@4"}, {"1ex", "d1@1 nex@2"}, {"1ex5", "d1@1 nex5@2"}, {"1e_5", "d1@1 ne_5@2"}, {"1e5e6", "d1e5@1 ne6@4"}, {"1e5e", "d1e5@1 ne@4"}, {"1E5", "d1@1 nE5@2"}, {"1e123x", "d1e123@1 nx@6"}, {"1ee5", "d1@1 nee5@2"}, {"0x1", "d0@1 nx1@2"},
	} {
		checkWords(t, c[0], c[1])
	}
}

func TestPlacesOfWhatIsNoNumber(t *testing.T) {
	nines := strings.Repeat("9", 386)
	for _, c := range []struct {
		s  string
		at int
	}{
		{"1.", 2}, {"1.x", 2}, {"1. 5", 2}, {"1 .5", 3}, {".5", 1}, {".", 1}, {"1..5", 2}, {"1.5.2", 4}, {"1.5.", 4}, {"1.e5", 2}, {"1.-5", 2}, {"1./2", 2}, {"1e5.5", 4}, {"1e123.5", 6}, {"1e1234.", 7}, {"3/4.5", 4}, {"3/.5", 3}, {"3/4.", 4}, {"1e.5", 3}, {"1e-.5", 4},
		{"1/0", 1}, {" 1/0", 2}, {"1/00", 1}, {"0/0", 1}, {"1/0000000000", 1}, {"v = 1/0", 5}, {"v = 1/0 ?", 5}, {"v*1/0+2", 3}, {"1/0/2", 1}, {"1/0.5", 1}, {"1/0e5", 1}, {"-1/0", 2},
		{nines, 1}, {"v + " + nines, 5}, {"v+" + nines + "?", 3}, {"1/" + nines, 1}, {nines + "/1", 1}, {"1e999", 1}, {"1e-999", 1}, {"1e386", 1}, {"1e-386", 1}, {"v^1e999", 3}, {"v^-1e-999", 4}, {"1e9999", 1}, {"10e385", 1}, {"9.9e999x", 1}, {"(1e400)", 2},
		{strings.Repeat("0", impl.MaxDigits+1), 1}, {strings.Repeat("1", impl.MaxText), 1}, {"2 " + strings.Repeat("0", impl.MaxDigits) + "1", 3}, {"0." + strings.Repeat("0", impl.MaxDigits-1), 1}, {"1/" + strings.Repeat("0", impl.MaxDigits-2) + "1", 1}, {strings.Repeat("0", impl.MaxDigits-2) + "1e1", 1},
	} {
		checkPlace(t, c.s, c.at)
	}
}

func TestNumbersAsWordsAtTheirLimits(t *testing.T) {
	most := greatest().String()
	for _, s := range []string{
		strings.Repeat("0", impl.MaxDigits), strings.Repeat("0", impl.MaxDigits-1) + "7", "0." + strings.Repeat("0", impl.MaxDigits-2), "1/" + strings.Repeat("0", impl.MaxDigits-3) + "1", strings.Repeat("0", impl.MaxDigits-5) + "1e-12",
		strings.Repeat("9", 385), most, "1/" + most, "1e385", "1e-385", "0e999", "0e-999", most + "/3", "7/" + strings.Repeat("9", 385),
	} {
		checkWords(t, s, "d"+s+"@1")
		checkWords(t, "v*"+s+" )", "nv@1 s*@2 d"+s+"@3 s)@"+strconv.Itoa(len(s)+4))
	}
	beyond := greatest()
	beyond.Add(beyond, twoTo(0))
	checkPlace(t, beyond.String(), 1)
	checkPlace(t, "1/"+beyond.String(), 1)
	checkPlace(t, "v = "+beyond.String()+" ?", 5)
	checkWords(t, beyond.String()+"/2", "d"+beyond.String()+"/2@1")
}

// kindOfByte is the Kind of a byte that stands alone, 3 for what stands between words and 4 for what begins none.
func kindOfByte(b int) int {
	switch {
	case b >= 65 && b <= 90, b >= 97 && b <= 122:
		return impl.TName
	case b >= 48 && b <= 57:
		return impl.TNum
	case b == 43 || b == 45 || b == 42 || b == 47 || b == 94 || b == 40 || b == 41 || b == 61:
		return impl.TSign
	case b == 32 || b == 9:
		return 3
	}
	return 4
}

func TestEachByteAsAWord(t *testing.T) {
	x, y := word(impl.TName, "x", 1), word(impl.TName, "y", 5)
	for b := range 256 {
		sign := string([]byte{byte(b)})
		kind := kindOfByte(b)
		for s, at := range map[string]int{sign: 1, sign + " y": 1, "x " + sign: 3, "x " + sign + " y": 3, "(" + sign + ")": 2, "2 " + sign + sign: 3, "\t" + sign: 2} {
			checkLex(t, s)
			if kind == 4 {
				checkPlace(t, s, at)
			} else if _, place := impl.Lex(s); place != 0 {
				t.Errorf("Lex of %q: %d", s, place)
			}
		}
		want := []impl.Token{x, word(kind, sign, 3), y}
		if kind == 3 {
			want = []impl.Token{x, y}
		}
		if got, _ := impl.Lex("x " + sign + " y"); kind != 4 && !slices.Equal(got, want) {
			t.Errorf("byte %d: %v", b, got)
		}
		for _, ahead := range []string{"v", "7", "3/", "3/4", "1.", "1.5", "1e", "1e-", "1e5", "1e12", "1e123", "abcdefghijkl", "+", ")"} {
			checkLex(t, ahead+sign)
			checkLex(t, ahead+sign+"5")
			checkLex(t, ahead+sign+"e7")
		}
	}
}

func TestTextsOfFormulasAtMaxText(t *testing.T) {
	blanks := strings.Repeat(" ", impl.MaxText)
	checkWords(t, blanks, "")
	checkWords(t, strings.Repeat("\t", impl.MaxText), "")
	checkWords(t, "v"+blanks[1:], "nv@1")
	checkWords(t, blanks[1:]+"v", "nv@4000")
	checkWords(t, blanks[2:]+"(v", "s(@3999 nv@4000")
	checkPlace(t, blanks[1:]+"?", impl.MaxText)
	checkPlace(t, "?"+blanks[1:], 1)
	for _, s := range []string{blanks + " ", blanks + "\t", blanks + "v", "v" + blanks, " ?" + blanks, "v ? g" + blanks, blanks + "?", strings.Repeat("\xff", impl.MaxText+1), strings.Repeat(" 1/0", impl.MaxText), strings.Repeat("v ", impl.MaxText)} {
		checkPlace(t, s, 1)
	}
}

func TestMaxWords(t *testing.T) {
	for _, unit := range []string{"v", "+", "7", "1/2 ", "v ", " v", "( ", "\t1e5\t", "1e123", "v+", "2x", "abcdefghijkl*"} {
		each, _ := lexByWords(unit)
		full := strings.Repeat(unit+" ", impl.MaxWords/len(each))
		list, place := impl.Lex(full)
		if place != 0 || len(list) != impl.MaxWords {
			t.Errorf("MaxWords words of %q: %d and %d", unit, len(list), place)
		}
		for _, behind := range []string{"", " ", "\t \t", strings.Repeat(" ", 200)} {
			checkLex(t, full+behind)
			for _, more := range []string{"v", "+", "7", "1/0", "?", "\n", "\xff", "abcdefghijklm", "v v", "v ?", "? v"} {
				checkPlace(t, full+behind+more, len(full)+len(behind)+1)
			}
		}
		checkPlace(t, strings.Repeat(unit+" ", impl.MaxWords/len(each)-1)+"? "+unit+unit+unit+unit, len(full)-len(unit)-1+1)
	}
	signs := strings.Repeat("(", impl.MaxWords)
	checkLex(t, signs)
	checkPlace(t, signs+"(", impl.MaxWords+1)
	checkPlace(t, strings.Repeat("+", impl.MaxText), impl.MaxWords+1)
	checkPlace(t, "?"+signs+"(", 1)
}

// All texts of few bytes, of those that numbers are made of.
func TestAllShortTextsOfWords(t *testing.T) {
	for signs, most := range map[string]int{"10/.e- ": 6, "1e-x_(\t": 5, "0/1.e+?\n": 4} {
		var checkAll func(s string, left int)
		checkAll = func(s string, left int) {
			checkLex(t, s)
			for i := 0; left > 0 && i < len(signs); i++ {
				checkAll(s+signs[i:i+1], left-1)
			}
		}
		checkAll("", most)
		if t.Failed() {
			return
		}
	}
}

func TestChanceTextsOfWords(t *testing.T) {
	r := rand.New(rand.NewSource(51))
	for _, s := range sampleTexts() {
		checkLex(t, s)
	}
	for range 4000 {
		for _, signs := range []string{"0123456789/.e- ", "abeZ_019 \t" + signsOfWords, "10/.e-+*^()= vx_", "v1 (", "1e2-/", "v1\xff\xc3\xa9\n?"} {
			checkLex(t, mixedText(r, signs, 30))
		}
		checkLex(t, anyText(r))
	}
	for range 100 {
		checkLex(t, mixedText(r, "abe19 "+signsOfWords, impl.MaxText+1))
		checkLex(t, mixedText(r, "1v+           ", 1400))
	}
}

// chanceWord is a word of each kind, now and then as long as it may be.
func chanceWord(r *rand.Rand) impl.Token {
	digits := func(most int) string { return strconv.Itoa(1+r.Intn(9)) + mixedText(r, "0123456789", most) }
	switch r.Intn(9) {
	case 0:
		return word(impl.TNum, digits(5), 0)
	case 1:
		return word(impl.TNum, digits(5)+"/"+digits(5), 0)
	case 2:
		return word(impl.TNum, digits(2)+"."+digits(4), 0)
	case 3:
		return word(impl.TNum, digits(2)+"."+digits(1)+"e-"+digits(1), 0)
	case 4:
		return word(impl.TNum, "00"+digits(1)+"e"+digits(1), 0)
	case 5, 6:
		at := r.Intn(len(signsOfWords))
		return word(impl.TSign, signsOfWords[at:at+1], 0)
	}
	name := mixedText(r, "e", 1) + "vZ"[r.Intn(2):][:1] + mixedText(r, "ab_e09", impl.MaxName-2)
	return word(impl.TName, name, 0)
}

// placed are the same words where Spell puts them.
func placed(list []impl.Token) []impl.Token {
	at := 1
	list = slices.Clone(list)
	for i := range list {
		list[i].At = at
		at += len(list[i].Text) + 1
	}
	return list
}

func TestSpelledWordsAreThoseWordsAgain(t *testing.T) {
	r := rand.New(rand.NewSource(52))
	for round := range 4000 {
		most := 12
		if round%10 == 0 {
			most = impl.MaxWords
		}
		var list []impl.Token
		for range r.Intn(most + 1) {
			list = append(list, chanceWord(r))
		}
		text := impl.Spell(list)
		if len(text) > impl.MaxText {
			continue
		}
		got, place := impl.Lex(text)
		if place != 0 || !slices.Equal(got, placed(list)) {
			t.Fatalf("Lex of %q: %s and %d", text, toldWords(got), place)
		}
		if again := impl.Spell(got); again != text {
			t.Fatalf("%q is spelled anew as %q", text, again)
		}
	}
}

// Whatever Lex takes is the same words with other blanks between them, too.
func TestWordsThatAreTakenComeBack(t *testing.T) {
	r := rand.New(rand.NewSource(53))
	taken := 0
	for range 60000 {
		list, place := impl.Lex(mixedText(r, "12e/.-v_ (+", 14))
		if place != 0 {
			continue
		}
		taken++
		text := impl.Spell(list)
		if got, place := impl.Lex(text); place != 0 || !slices.Equal(got, placed(list)) {
			t.Fatalf("Lex of %q: %s and %d, wanted %s", text, toldWords(got), place, toldWords(placed(list)))
		}
		wide := "\t" + strings.ReplaceAll(text, " ", " \t ") + "  "
		got, place := impl.Lex(wide)
		if place != 0 || !slices.Equal(placed(got), placed(list)) {
			t.Fatalf("Lex of %q: %s and %d", wide, toldWords(got), place)
		}
		for _, w := range got {
			if !strings.HasPrefix(wide[w.At-1:], w.Text) {
				t.Fatalf("%q doesn't stand at %d of %q", w.Text, w.At, wide)
			}
		}
	}
	if taken < 1000 {
		t.Error("too few texts were taken:", taken)
	}
}

func TestSpelledWordsAtTheirLimits(t *testing.T) {
	// 3700 bytes of words and 199 blanks.
	long := slices.Repeat([]impl.Token{word(impl.TName, "abcdefghijkl", 0), word(impl.TNum, "1234567890123456789012345", 0)}, impl.MaxWords/2)
	if s := impl.Spell(long); len(s) > impl.MaxText {
		t.Fatal("longer than MaxText:", len(s))
	}
	checkSpelled := func(list []impl.Token, takes bool) {
		t.Helper()
		text := impl.Spell(list)
		got, place := impl.Lex(text)
		if takes && (place != 0 || !slices.Equal(got, placed(list))) || !takes && (place == 0 || len(got) != 0) {
			t.Errorf("%d words of %d bytes: %d and %d", len(list), len(text), len(got), place)
		}
	}
	checkSpelled(long, true)
	exact := slices.Clone(long)
	last := &exact[len(exact)-1]
	last.Text += strings.Repeat("0", impl.MaxText-len(impl.Spell(exact)))
	if len(impl.Spell(exact)) != impl.MaxText {
		t.Fatal("not of MaxText bytes:", len(impl.Spell(exact)))
	}
	checkSpelled(exact, true)
	last.Text += "0"
	checkSpelled(exact, false)
	if _, place := impl.Lex(impl.Spell(exact)); place != 1 {
		t.Error("a text of one more than MaxText bytes:", place)
	}
	short := slices.Repeat([]impl.Token{word(impl.TSign, "(", 0)}, impl.MaxWords+1)
	checkSpelled(short[1:], true)
	checkSpelled(short, false)
	if _, place := impl.Lex(impl.Spell(short)); place != 2*impl.MaxWords+1 {
		t.Error("one word more than MaxWords:", place)
	}
}

func TestSpellAtEdges(t *testing.T) {
	for _, c := range []struct {
		want  string
		texts []string
	}{
		{"", nil}, {"", []string{}}, {"", []string{""}}, {" ", []string{"", ""}}, {"  ", []string{"", "", ""}}, {"v", []string{"v"}}, {"v ", []string{"v", ""}}, {" v", []string{"", "v"}}, {"v  g", []string{"v", "", "g"}},
		{"v g", []string{"v", "g"}}, {"v = - 3/4", []string{"v", "=", "-", "3/4"}}, {"a b  c", []string{"a b", " c"}}, {" ", []string{" "}}, {"\xff \n é", []string{"\xff", "\n", "é"}}, {strings.Repeat("a ", 5000) + "a", slices.Repeat([]string{"a"}, 5001)},
	} {
		var list []impl.Token
		for i, s := range c.texts {
			list = append(list, word(i*7-3, s, -i))
		}
		if got := impl.Spell(list); got != c.want {
			t.Errorf("Spell of %.200q: %.200q, wanted %.200q", c.texts, got, c.want)
		}
		if got := impl.Spell(list); got != strings.Join(c.texts, " ") {
			t.Errorf("Spell of %.200q: %.200q", c.texts, got)
		}
	}
}

func TestNumbersOfWords(t *testing.T) {
	texts := []string{"0", "7", "007", "3/4", "6/4", "-3/4", "1.5e-2", "1e385", "-0", "1/0", "1e386", "", "v", "+", "1e", "1.", "--1", " 1", "1 ", "3/4e5", "1e1234", "\xff", strings.Repeat("0", impl.MaxDigits), strings.Repeat("0", impl.MaxDigits+1), greatest().String()}
	for _, s := range append(texts, sampleTexts()[:500]...) {
		for _, at := range []int{0, 1, 5, -7, math.MinInt, math.MaxInt} {
			got, ok := impl.NumOf(word(impl.TNum, s, at))
			if value, taken := readByWords(s); taken {
				tellsRat(t, "NumOf", s, got, ok, value)
			} else {
				refusesRat(t, "NumOf", s, got, ok)
			}
			if want, wantOk := impl.ReadRat(s); ok != wantOk || !sameRat(got, want) {
				t.Errorf("NumOf of %.100q isn't ReadRat", s)
			}
		}
		for _, kind := range []int{impl.TName, impl.TSign, -1, -2, 3, 4, 255, 257, -255, 1 << 32, 1<<32 + 1, math.MinInt, math.MinInt + 1, math.MaxInt} {
			got, ok := impl.NumOf(word(kind, s, 1))
			refusesRat(t, "NumOf", []any{kind, s}, got, ok)
		}
	}
}

func TestWordsTakenAsNumbersAre(t *testing.T) {
	list, place := impl.Lex("v 1/2 + 1.5e-2 e 007")
	var got []string
	for _, w := range list {
		if x, ok := impl.NumOf(w); ok {
			got = append(got, impl.RatText(x))
		} else if !isZeroRat(x) || w.Kind == impl.TNum {
			t.Error(w, x)
		}
	}
	if place != 0 || !slices.Equal(got, []string{"1/2", "3/200", "7"}) {
		t.Error(got, place)
	}
}

func formulaTexts() []string {
	return append(oddTexts(), "v", "v_2 = -3/4*g^1.5e-2 (2e x", "1e12345", "+", "7", "a b c", "1/0", "v ?", strings.Repeat("v ", impl.MaxWords), strings.Repeat("v ", impl.MaxWords+1))
}

func TestListsOfWordsShareNoMemory(t *testing.T) {
	for _, s := range formulaTexts() {
		kept := strings.Clone(s)
		first, place := impl.Lex(s)
		second, _ := impl.Lex(s)
		for _, w := range first {
			if inside(w.Text, s) {
				t.Errorf("Lex of %.100q shares its memory", s)
			}
		}
		whole := first[:cap(first)]
		for i := range whole {
			whole[i] = word(7, "other", -1)
		}
		third, again := impl.Lex(s)
		if !slices.Equal(second, third) || place != again || s != kept {
			t.Errorf("Lex of %.100q hangs on an earlier answer", s)
		}
	}
}

// A text made over bytes that are written anew tells whether one is kept, or written into.
func TestTextsOfFormulasAreNeitherKeptNorWrittenInto(t *testing.T) {
	for _, s := range formulaTexts() {
		b := append([]byte(s), "behind"...)
		text := unsafe.String(unsafe.SliceData(b), len(s))
		list, place := impl.Lex(text)
		spelled := impl.Spell([]impl.Token{{Text: text}})
		number, ok := impl.NumOf(impl.Token{Kind: impl.TNum, Text: text})
		if string(b) != s+"behind" {
			t.Errorf("%.100q is written into", s)
		}
		if inside(spelled, text) {
			t.Errorf("Spell of %.100q shares its memory", s)
		}
		for i := range b {
			b[i] = '1'
		}
		want, wantPlace := impl.Lex(s)
		value, wantOk := impl.NumOf(impl.Token{Kind: impl.TNum, Text: s})
		if !slices.Equal(list, want) || place != wantPlace || spelled != s || ok != wantOk || !sameRat(number, value) {
			t.Errorf("%.100q is kept", s)
		}
	}
}

func TestWordsThatAreSpelledAreNotWrittenInto(t *testing.T) {
	for n := range 6 {
		bytes := []byte("abcdefbehind")
		room := make([]impl.Token, 9)
		for i := range room {
			room[i] = word(i-2, unsafe.String(&bytes[min(i, 5)], 1), i*i-1)
		}
		kept := slices.Clone(room)
		for i := range kept {
			kept[i].Text = strings.Clone(kept[i].Text)
		}
		text := impl.Spell(room[:n])
		for _, w := range room {
			impl.NumOf(w)
			if inside(text, w.Text) {
				t.Errorf("Spell of %d words shares the memory of %q", n, w.Text)
			}
		}
		if !slices.Equal(room, kept) || string(bytes) != "abcdefbehind" {
			t.Errorf("Spell of %d words writes into them: %v", n, room)
		}
		for i := range bytes {
			bytes[i] = 'x'
		}
		if want := impl.Spell(kept[:n]); text != want || want != strings.Join(strings.Split("abcdef", "")[:n], " ") {
			t.Errorf("Spell of %d words: %q, wanted %q", n, text, want)
		}
	}
}

func TestNumOfTellsNewMemory(t *testing.T) {
	for _, s := range []string{"0", "7", "-3/4", "1.5e-2", "1e300", "1/" + greatest().String()} {
		first, _ := impl.NumOf(word(impl.TNum, s, 1))
		again, _ := impl.NumOf(word(impl.TNum, s, 1))
		for _, room := range ratRooms(first) {
			scribble(room)
		}
		if last, ok := impl.NumOf(word(impl.TNum, s, 1)); !ok || !sameRat(last, again) || !sameRat(again, needRat(t, s)) {
			t.Errorf("NumOf of %q hangs on an earlier answer", s)
		}
	}
}

func TestFunctionsOfWordsAnswerAnything(t *testing.T) {
	r := rand.New(rand.NewSource(54))
	kinds := []int{math.MinInt, -1, 0, 1, 2, 3, math.MaxInt}
	for range 5000 {
		var list []impl.Token
		var texts []string
		for range r.Intn(6) {
			texts = append(texts, anyText(r)+mixedText(r, "1/e.-v ", 5))
			list = append(list, word(kinds[r.Intn(len(kinds))], texts[len(texts)-1], kinds[r.Intn(len(kinds))]))
		}
		text := impl.Spell(list)
		if text != strings.Join(texts, " ") {
			t.Errorf("Spell of %q: %q", texts, text)
		}
		checkLex(t, text)
		for _, w := range list {
			if x, ok := impl.NumOf(w); ok != (w.Kind == impl.TNum && takenByWords(w.Text)) || ok != impl.RatOk(x) {
				t.Errorf("NumOf of %v: %v %v", w, x, ok)
			}
		}
	}
	for _, s := range []string{strings.Repeat("a1 \n\t\xff", 100000), strings.Repeat("1", 1000000), strings.Repeat(" ", 1000000)} {
		checkPlace(t, s, 1)
		x, ok := impl.NumOf(word(impl.TNum, s, 1))
		refusesRat(t, "NumOf", len(s), x, ok)
	}
}
