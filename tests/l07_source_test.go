package tests

import (
	"math"
	"math/big"
	"math/rand"
	"slices"
	"strconv"
	"strings"
	"testing"
	"unsafe"

	"loop.example/g00676/impl"
)

func partOf(name string, p int, q int) impl.Part {
	return impl.Part{Name: name, P: p, Q: q}
}

func sameStmt(a impl.Stmt, b impl.Stmt) bool {
	return a.Kind == b.Kind && a.Name == b.Name && sameRat(a.Num, b.Num) && slices.Equal(a.Parts, b.Parts) && sameExpr(a.Expr, b.Expr) && a.Line == b.Line
}

func isZeroStmt(s impl.Stmt) bool {
	return sameStmt(s, impl.Stmt{})
}

// powersByText are all powers that a part may have, by what stands behind its Name.
func powersByText() map[string][2]int {
	table := map[string][2]int{}
	for q := 1; q <= 12; q++ {
		for p := -12; p <= 12; p++ {
			if powerByWords(p, q) {
				table["^"+big.NewRat(int64(p), int64(q)).RatString()] = [2]int{p, q}
			}
		}
	}
	delete(table, "^1")
	table[""] = [2]int{1, 1}
	return table
}

func rightPart(p impl.Part) bool {
	return nameByWords(p.Name) && powerByWords(p.P, p.Q)
}

func partTextByWords(p impl.Part) string {
	for behind, power := range powersOfParts {
		if power == [2]int{p.P, p.Q} {
			return p.Name + behind
		}
	}
	return ""
}

var powersOfParts = powersByText()

// readPartByWords is ReadPart in another way: by a table of all that may stand behind a Name.
func readPartByWords(s string) (impl.Part, bool) {
	name := formOfName.FindString(s)
	power, ok := powersOfParts[s[len(name):]]
	if !ok || !nameByWords(name) {
		return impl.Part{}, false
	}
	return partOf(name, power[0], power[1]), true
}

func rightMeasure(r impl.Rat) bool {
	return numberByWords(r) && len(r.Num.Limbs) > 0
}

func rightParts(list []impl.Part) bool {
	return len(list) <= 8 && !slices.ContainsFunc(list, func(p impl.Part) bool { return !rightPart(p) })
}

var lineNames = []string{"base", "prefix", "unit", "var", "form", "target"}

// rightStmt is StmtOk in another way: field by field.
func rightStmt(s impl.Stmt) bool {
	if s.Kind < 0 || s.Kind > 5 || !nameByWords(s.Name) || s.Line < 0 || s.Line > 4000 {
		return false
	}
	name := lineNames[s.Kind]
	number, parts, formula := isZeroRat(s.Num), len(s.Parts) == 0, isZeroExpr(s.Expr)
	if name == "prefix" || name == "unit" {
		number = rightMeasure(s.Num)
	}
	if name == "unit" || name == "var" {
		parts = rightParts(s.Parts)
	}
	if name == "form" {
		formula = okByWords(s.Expr)
	}
	return number && parts && formula
}

// lineByWords is ShowLine of a right statement in another way.
func lineByWords(s impl.Stmt) string {
	text := lineNames[s.Kind] + " " + s.Name
	if len(s.Num.Den.Limbs) > 0 {
		text += " " + ratOracle(s.Num).RatString()
	}
	for _, p := range s.Parts {
		text += " " + partTextByWords(p)
	}
	if s.Kind == 4 {
		text += " = " + showByWords(s.Expr)
	}
	return text
}

func wordsOfLine(s string) []string {
	return strings.FieldsFunc(s, func(sign rune) bool { return sign == 32 || sign == 9 })
}

// headByWords is the code that a line is refused with for its words' number and its Name; else 0.
func headByWords(words []string) int {
	if len(words) == 0 || !slices.Contains(lineNames, words[0]) {
		return 1
	}
	right := map[string]bool{"base": len(words) == 2, "prefix": len(words) == 3, "unit": len(words) > 2, "var": len(words) > 1, "form": len(words) > 2 && words[2] == "=", "target": len(words) == 2}
	if !right[words[0]] {
		return 2
	}
	if !nameByWords(words[1]) {
		return 3
	}
	return 0
}

// readLineByWords is ParseLine in another way.
func readLineByWords(s string) (impl.Stmt, int) {
	if len(s) > 4000 {
		return impl.Stmt{}, 7
	}
	words := wordsOfLine(s)
	if code := headByWords(words); code > 0 {
		return impl.Stmt{}, code
	}
	line := impl.Stmt{Kind: slices.Index(lineNames, words[0]), Name: words[1]}
	rest := words[2:]
	if line.Kind == 1 || line.Kind == 2 {
		value, ok := readByWords(rest[0])
		if !ok || !fitsRatOracle(value) || value.Sign() <= 0 || len(value.RatString()) > 400 {
			return impl.Stmt{}, 4
		}
		line.Num = fromRatOracle(value)
		rest = rest[1:]
	}
	if line.Kind == 4 {
		e, place := parseByWords(s[strings.IndexByte(s, 61)+1:])
		if place > 0 {
			return impl.Stmt{}, 6
		}
		line.Expr = e
		return line, 0
	}
	for _, word := range rest {
		p, ok := readPartByWords(word)
		if !ok || len(line.Parts) == 8 {
			return impl.Stmt{}, 5
		}
		line.Parts = append(line.Parts, p)
	}
	return line, 0
}

// readSourceByWords is ParseSource in another way: all faults are gathered, and the first one is told.
func readSourceByWords(s string) ([]impl.Stmt, impl.Fault) {
	if len(s) > 4000 {
		return nil, impl.Fault{Code: 7}
	}
	var list []impl.Stmt
	var faults []impl.Fault
	said := 0
	for i, line := range strings.Split(s, "\n") {
		if at := strings.IndexByte(line, 35); at >= 0 {
			line = line[:at]
		}
		if len(wordsOfLine(line)) == 0 {
			continue
		}
		said++
		statement, code := readLineByWords(line)
		if said > 60 {
			code = 7
		}
		if code > 0 {
			faults = append(faults, impl.Fault{Code: code, Line: i + 1})
		}
		statement.Line = i + 1
		list = append(list, statement)
	}
	if len(faults) > 0 {
		return nil, faults[0]
	}
	return list, impl.Fault{}
}

func checkReadPart(t *testing.T, s string) {
	t.Helper()
	got, ok := impl.ReadPart(s)
	if want, wantOk := readPartByWords(s); ok != wantOk || got != want {
		t.Errorf("ReadPart of %.200q: %v %v, wanted %v %v", s, got, ok, want, wantOk)
	}
}

func checkLine(t *testing.T, s string) {
	t.Helper()
	got, code := impl.ParseLine(s)
	if want, wantCode := readLineByWords(s); code != wantCode || !sameStmt(got, want) {
		t.Errorf("ParseLine of %.300q: %v and %d, wanted %v and %d", s, got, code, want, wantCode)
	}
}

// checkCode wants the line to be refused with that code.
func checkCode(t *testing.T, s string, want int) {
	t.Helper()
	if got, code := impl.ParseLine(s); code != want || !isZeroStmt(got) {
		t.Errorf("ParseLine of %.300q: %v and %d, wanted nothing and %d", s, got, code, want)
	}
	checkLine(t, s)
}

// checkSaid wants the line to be the statement that is shown so.
func checkSaid(t *testing.T, s string, shown string) {
	t.Helper()
	got, code := impl.ParseLine(s)
	if code != impl.PaOk || got.Line != 0 || !rightStmt(got) || lineByWords(got) != shown || impl.ShowLine(got) != shown {
		t.Errorf("ParseLine of %.300q: %v and %d, shown %.300q, wanted %.300q", s, got, code, impl.ShowLine(got), shown)
	}
	checkLine(t, s)
}

func checkSource(t *testing.T, s string) {
	t.Helper()
	got, fault := impl.ParseSource(s)
	if want, wantFault := readSourceByWords(s); fault != wantFault || !slices.EqualFunc(got, want, sameStmt) {
		t.Errorf("ParseSource of %.500q: %v and %v, wanted %v and %v", s, got, fault, want, wantFault)
	}
}

// checkFault wants the source to be refused so.
func checkFault(t *testing.T, s string, code int, line int) {
	t.Helper()
	if got, fault := impl.ParseSource(s); len(got) != 0 || fault.Code != code || fault.Line != line {
		t.Errorf("ParseSource of %.300q: %d statements and %v, wanted %d in line %d", s, len(got), fault, code, line)
	}
	checkSource(t, s)
}

// toldStmts writes statements as the tables below have them: each Line, a blank and the text, with strokes between them.
func toldStmts(list []impl.Stmt) string {
	var parts []string
	for _, s := range list {
		parts = append(parts, strconv.Itoa(s.Line)+" "+lineByWords(s))
	}
	return strings.Join(parts, " | ")
}

// checkStmts wants the source to be taken, told by toldStmts.
func checkStmts(t *testing.T, s string, want string) {
	t.Helper()
	got, fault := impl.ParseSource(s)
	if fault != (impl.Fault{}) || slices.ContainsFunc(got, func(s impl.Stmt) bool { return !rightStmt(s) }) || toldStmts(got) != want {
		t.Errorf("ParseSource of %.300q: %v and %v, wanted %s", s, got, fault, want)
	}
	checkSource(t, s)
}

// checkRightStmt holds all that is told of a right statement against the second reckoning, and reads it anew.
func checkRightStmt(t *testing.T, s impl.Stmt) {
	t.Helper()
	if !rightStmt(s) || !impl.StmtOk(s) {
		t.Errorf("%v: StmtOk %v, in another way %v", s, impl.StmtOk(s), rightStmt(s))
		return
	}
	text := impl.ShowLine(s)
	if text != lineByWords(s) {
		t.Errorf("ShowLine of %v: %.300q, wanted %.300q", s, text, lineByWords(s))
	}
	if got := impl.ShowSource([]impl.Stmt{s}); got != text+"\n" {
		t.Errorf("ShowSource of %v: %.300q", s, got)
	}
	checkLine(t, text)
	if _, taken := lexByWords(showByWordsIfForm(s)); len(text) > impl.MaxText || taken > 0 {
		return
	}
	s.Line = 0
	if again, code := impl.ParseLine(text); code != impl.PaOk || !sameStmt(again, s) {
		t.Errorf("%v doesn't come back from %.300q: %v and %d", s, text, again, code)
	}
}

// showByWordsIfForm is the text of a statement's formula; the empty one where it hasn't one. A formula of too many words is shown, but not read.
func showByWordsIfForm(s impl.Stmt) string {
	if s.Kind != 4 {
		return ""
	}
	return showByWords(s.Expr)
}

// checkWrongStmt wants each function's one answer to what isn't StmtOk.
func checkWrongStmt(t *testing.T, s impl.Stmt) {
	t.Helper()
	if impl.StmtOk(s) || impl.ShowLine(s) != "" {
		t.Errorf("Kind %d, Name %.50q, Line %d: StmtOk %v, ShowLine %.300q of what isn't right", s.Kind, s.Name, s.Line, impl.StmtOk(s), impl.ShowLine(s))
	}
	good := impl.Stmt{Kind: impl.SBase, Name: "m"}
	for _, list := range [][]impl.Stmt{{s}, {good, s}, {s, good}, {good, s, good}} {
		if got := impl.ShowSource(list); got != "" {
			t.Errorf("ShowSource with what isn't right: %.300q", got)
		}
	}
}

// checkEither is one of the two, as the second reckoning has it.
func checkEither(t *testing.T, s impl.Stmt) {
	t.Helper()
	if rightStmt(s) {
		checkRightStmt(t, s)
	} else {
		checkWrongStmt(t, s)
	}
}

func TestConstantsOfSources(t *testing.T) {
	kinds := []int{impl.SBase, impl.SPrefix, impl.SUnit, impl.SVar, impl.SForm, impl.STarget}
	codes := []int{impl.PaOk, impl.PaWord, impl.PaMany, impl.PaName, impl.PaNum, impl.PaPart, impl.PaExpr, impl.PaLong}
	if !slices.Equal(kinds, []int{0, 1, 2, 3, 4, 5}) || !slices.Equal(codes, []int{0, 1, 2, 3, 4, 5, 6, 7}) || impl.MaxStmts != 60 || impl.MaxParts != 8 {
		t.Error(kinds, codes, impl.MaxStmts, impl.MaxParts)
	}
}

// namesThatAreNone aren't NameOk, each for a reason of its own.
func namesThatAreNone() []string {
	return []string{"", " ", "1", "1a", "_", "_a", "abcdefghijklm", "a b", "a ", " a", "a\tb", "a-b", "a+", "a^", "^", "a^2", "a#", "a=", "=", "(a)", "é", "aé", "a\xff", "\xff", "a\x00", "a\n", "a\r", strings.Repeat("a", 100000)}
}

func namesThatAreSome() []string {
	return []string{"m", "Z", "a_", "a1", "kg", "rho_1", "abcdefghijkl", "Z___________", "e", "e5", "base", "target", "form"}
}

func TestPartsThatAreRight(t *testing.T) {
	far := []int{-100, -24, 24, 100, 1 << 32, 1<<32 + 1, -1 << 32, math.MinInt, math.MinInt + 1, math.MaxInt}
	values := append(far, -14, -13, -12, -11, -10, -9, -8, -7, -6, -5, -4, -3, -2, -1, 0, 1, 2, 3, 4, 5, 6, 7, 8, 9, 10, 11, 12, 13, 14)
	right := 0
	for _, p := range values {
		for _, q := range values {
			part := partOf("m", p, q)
			want := p >= -12 && p <= 12 && q >= 1 && q <= 12 && impl.Gcd(p, q) == 1
			if impl.PartOk(part) != want || rightPart(part) != want {
				t.Errorf("PartOk of %v: %v", part, impl.PartOk(part))
			}
			if (impl.PartText(part) != "") != want {
				t.Errorf("PartText of %v: %q", part, impl.PartText(part))
			}
			for _, name := range namesThatAreNone() {
				if part.Name = name; impl.PartOk(part) || impl.PartText(part) != "" {
					t.Errorf("PartOk of %.50v, PartText %.50q", part, impl.PartText(part))
				}
			}
			if want {
				right++
			}
		}
	}
	if right != len(powersOfParts) {
		t.Errorf("%d powers are right, wanted %d", right, len(powersOfParts))
	}
	for _, name := range namesThatAreSome() {
		if !impl.PartOk(partOf(name, -11, 12)) || impl.PartOk(partOf(name, 0, 0)) {
			t.Errorf("a part of %q", name)
		}
	}
}

func TestPartsAtMaxExp(t *testing.T) {
	for _, c := range [][2]int{{12, 1}, {-12, 1}, {1, 12}, {-1, 12}, {12, 11}, {-12, 11}, {11, 12}, {-11, 12}, {0, 1}, {1, 1}, {-1, 1}, {7, 12}, {5, 6}} {
		if !impl.PartOk(partOf("m", c[0], c[1])) {
			t.Errorf("%v is right", c)
		}
	}
	for _, c := range [][2]int{{13, 1}, {-13, 1}, {1, 13}, {-1, 13}, {13, 13}, {12, 13}, {13, 12}, {0, 0}, {1, 0}, {-1, 0}, {1, -1}, {-1, -1}, {12, -11}, {0, -1}, {0, 2}, {0, 12}, {2, 2}, {-2, 2}, {12, 12}, {-12, 12}, {6, 9}, {-6, 9}, {12, 8}, {10, 5}, {3, 12}} {
		if impl.PartOk(partOf("m", c[0], c[1])) || impl.PartText(partOf("m", c[0], c[1])) != "" {
			t.Errorf("%v isn't right", c)
		}
	}
}

func TestTextsOfParts(t *testing.T) {
	for _, c := range []struct {
		p, q int
		text string
	}{
		{1, 1, "m"}, {0, 1, "m^0"}, {2, 1, "m^2"}, {-1, 1, "m^-1"}, {-2, 1, "m^-2"}, {12, 1, "m^12"}, {-12, 1, "m^-12"}, {1, 2, "m^1/2"}, {-1, 2, "m^-1/2"}, {3, 2, "m^3/2"}, {-3, 2, "m^-3/2"}, {12, 11, "m^12/11"}, {-11, 12, "m^-11/12"}, {1, 12, "m^1/12"}, {11, 1, "m^11"},
	} {
		if got := impl.PartText(partOf("m", c.p, c.q)); got != c.text {
			t.Errorf("PartText of m to the %d divided by %d: %q, wanted %q", c.p, c.q, got, c.text)
		}
		got, ok := impl.ReadPart(c.text)
		if !ok || got != partOf("m", c.p, c.q) {
			t.Errorf("ReadPart of %q: %v %v", c.text, got, ok)
		}
		checkReadPart(t, c.text)
	}
}

func TestPartsComeBackFromTheirTexts(t *testing.T) {
	texts := map[string]impl.Part{}
	for _, name := range namesThatAreSome() {
		for p := -12; p <= 12; p++ {
			for q := 1; q <= 12; q++ {
				part := partOf(name, p, q)
				text := impl.PartText(part)
				got, ok := impl.ReadPart(text)
				if !powerByWords(p, q) {
					if text != "" || ok || got != (impl.Part{}) {
						t.Errorf("%v: %q %v %v", part, text, got, ok)
					}
					continue
				}
				if text != partTextByWords(part) || !ok || got != part {
					t.Errorf("%v doesn't come back from %q: %v %v", part, text, got, ok)
				}
				if other, seen := texts[text]; seen {
					t.Errorf("%v and %v have one text: %q", part, other, text)
				}
				texts[text] = part
			}
		}
	}
}

func TestTextsThatAreNoPart(t *testing.T) {
	for _, s := range append(namesThatAreNone()[:14],
		"m^1", "m^", "m^+2", "m^+1", "m^-0", "m^00", "m^02", "m^-02", "m^4/2", "m^2/1", "m^1/1", "m^2/2", "m^2/4", "m^0/1", "m^0/2", "m^1.5", "m^2.0", "m^1e0", "m^2e0", "m^1e1", "m^0.5", "m^-1.5", "m^1/02", "m^01/2", "m^-1/-2", "m^1/-2", "m^--2", "m^- 2", "m^-", "m^/", "m^1/", "m^/2", "m^1/0", "m^0/0", "m^1/2/3", "m^1//2",
		"m^13", "m^-13", "m^1/13", "m^13/12", "m^12/13", "m^100", "m^18446744073709551618", "m^4294967298", "m^1e999", "m^"+strings.Repeat("9", 385), "m^"+strings.Repeat("0", 1000)+"2", "m^1/"+strings.Repeat("9", 300),
		"m^^2", "m^2^3", "m^2^", "^m", "^2", "^", "^^", "^m^2", "m^s", "m^2s", "m^(2)", "m^2)", "(m)^2",
		" m", "m ", "\tm", "m\t", "m\n", " m^2", "m^2 ", "m ^2", "m^ 2", "m^2\n", "m^2\t", "m^2 s", "m s", "m^2\x00", "m\x00", "m^2#", "m#", " ", "\t", "  ", "\n", "m=", "m*s", "m/s", "m^2/s",
		"mm^1", "abcdefghijklm^2", "abcdefghijkl^1", "1^2", "_m^2", "m-1^2", "é^2", "m^é", "m^\xff", "m\xff^2", "m^٢", "m^²",
		strings.Repeat("m", 1000000), strings.Repeat("^", 1000000), "m^"+strings.Repeat("1", 1000000)) {
		if got, ok := impl.ReadPart(s); ok || got != (impl.Part{}) {
			t.Errorf("ReadPart of %.100q: %v %v", s, got, ok)
		}
		checkReadPart(t, s)
	}
}

// All texts of few bytes, of those that parts are made of.
func TestAllShortTextsOfParts(t *testing.T) {
	for signs, most := range map[string]int{"m1^-/0": 6, "m2^/14": 6, "a^1.e+ \t_": 5} {
		var checkAll func(s string, left int)
		checkAll = func(s string, left int) {
			checkReadPart(t, s)
			for i := 0; left > 0 && i < len(signs); i++ {
				checkAll(s+signs[i:i+1], left-1)
			}
		}
		checkAll("", most)
		checkAll("m^", most)
		if t.Failed() {
			return
		}
	}
}

func TestChanceTextsOfParts(t *testing.T) {
	r := rand.New(rand.NewSource(71))
	for _, s := range sampleTexts() {
		checkReadPart(t, s)
		checkReadPart(t, "m^"+s)
		checkReadPart(t, s+"^2")
	}
	for range 20000 {
		checkReadPart(t, mixedText(r, "m^-/123", 8))
		checkReadPart(t, "kg^"+mixedText(r, "-/0123456789", 5))
		checkReadPart(t, mixedText(r, "ab_1^", 15))
		checkReadPart(t, anyText(r))
	}
}

// eachStmt is a right statement of each Kind.
func eachStmt() []impl.Stmt {
	third, parts := eNum("1/3").Num, []impl.Part{partOf("kg", 1, 1), partOf("m", 1, 2), partOf("s", -2, 1)}
	return []impl.Stmt{
		{Kind: impl.SBase, Name: "m", Line: 1}, {Kind: impl.SPrefix, Name: "k", Num: eNum("1000").Num, Line: 2}, {Kind: impl.SUnit, Name: "N", Num: third, Parts: parts, Line: 3}, {Kind: impl.SVar, Name: "v", Parts: parts, Line: 4}, {Kind: impl.SForm, Name: "e", Expr: eTwo("*", eVar("m"), ePow(eVar("v"), 2, 1)), Line: 5}, {Kind: impl.STarget, Name: "v", Line: 6},
	}
}

func TestStatementsOfEachKind(t *testing.T) {
	lines := []string{"base m", "prefix k 1000", "unit N 1/3 kg m^1/2 s^-2", "var v kg m^1/2 s^-2", "form e = m * v^2", "target v"}
	// The Kinds that a statement is right of: Parts may be none.
	others := [][]int{{impl.SBase, impl.SVar, impl.STarget}, {impl.SPrefix, impl.SUnit}, {impl.SUnit}, {impl.SVar}, {impl.SForm}, {impl.SBase, impl.SVar, impl.STarget}}
	for kind, s := range eachStmt() {
		if s.Kind != kind || impl.ShowLine(s) != lines[kind] {
			t.Errorf("Kind %d: %q, wanted %q", kind, impl.ShowLine(s), lines[kind])
		}
		checkRightStmt(t, s)
		checkSaid(t, lines[kind], lines[kind])
		for _, other := range []int{-1, 6, 7, 8, -6, 100, 1 << 32, 256, math.MinInt, math.MaxInt} {
			s.Kind = other
			checkWrongStmt(t, s)
		}
		for other := range 6 {
			s.Kind = other
			checkEither(t, s)
			if impl.StmtOk(s) != slices.Contains(others[kind], other) {
				t.Errorf("a statement of Kind %d as one of Kind %d: %v", kind, other, impl.StmtOk(s))
			}
		}
	}
}

func TestNamesOfStatements(t *testing.T) {
	for _, s := range eachStmt() {
		for _, name := range namesThatAreSome() {
			s.Name = name
			checkRightStmt(t, s)
		}
		for _, name := range namesThatAreNone() {
			s.Name = name
			checkWrongStmt(t, s)
		}
	}
}

func TestLinesOfStatements(t *testing.T) {
	for _, s := range eachStmt() {
		for _, line := range []int{0, 1, 2, 60, 61, 3999, impl.MaxText} {
			s.Line = line
			checkRightStmt(t, s)
		}
		for _, line := range []int{-1, -2, impl.MaxText + 1, impl.MaxText + 2, 1 << 32, math.MinInt, math.MaxInt, -impl.MaxText} {
			s.Line = line
			checkWrongStmt(t, s)
		}
	}
}

// What a Kind hasn't is its zero value: each field alone is set to all but that.
func TestFieldsThatAStatementHasNot(t *testing.T) {
	for kind, s := range eachStmt() {
		hasNum, hasParts, hasExpr := kind == impl.SPrefix || kind == impl.SUnit, kind == impl.SUnit || kind == impl.SVar, kind == impl.SForm
		for _, number := range append(wrongRats()[1:], ratOfInts(0, 1), ratOfInts(1, 1), ratOfInts(-1, 1), ratOfInts(3, 4), impl.Rat{Num: impl.Big{Neg: true}}, impl.Rat{Den: impl.Big{Neg: true}}, impl.Rat{Num: impl.FromInt(1)}, impl.Rat{Den: impl.FromInt(1)}) {
			changed := s
			changed.Num = number
			checkEither(t, changed)
			if !hasNum && !isZeroRat(number) {
				checkWrongStmt(t, changed)
			}
		}
		for _, parts := range [][]impl.Part{{{}}, {partOf("m", 1, 1)}, {partOf("m", 2, 1), partOf("s", -1, 2)}, make([]impl.Part, 8), make([]impl.Part, 9)} {
			changed := s
			changed.Parts = parts
			checkEither(t, changed)
			if !hasParts {
				checkWrongStmt(t, changed)
			}
		}
		for _, e := range append(eachKind(), impl.Expr{Name: "v"}, impl.Expr{P: 1}, impl.Expr{Q: 1}, impl.Expr{P: -1}, impl.Expr{Kind: 1}, impl.Expr{Kind: -1}, impl.Expr{Kind: 9}, impl.Expr{Kids: make([]impl.Expr, 1)}, impl.Expr{Num: ratOfInts(0, 1)}, impl.Expr{Num: impl.Rat{Num: impl.Big{Neg: true}}}, impl.Expr{Num: impl.Rat{Den: impl.Big{Neg: true}}}) {
			changed := s
			changed.Expr = e
			checkEither(t, changed)
			if !hasExpr {
				checkWrongStmt(t, changed)
			}
		}
		// An empty list and nil are the same value.
		changed := s
		if !hasNum {
			changed.Num = impl.Rat{Num: impl.Big{Limbs: []uint32{}}, Den: impl.Big{Limbs: make([]uint32, 0, 3)}}
		}
		if !hasParts {
			changed.Parts = make([]impl.Part, 0, 3)
		}
		if !hasExpr {
			changed.Expr = impl.Expr{Num: impl.Rat{Num: impl.Big{Limbs: []uint32{}}}, Kids: make([]impl.Expr, 0, 3)}
		}
		checkRightStmt(t, changed)
	}
}

func TestStatementsWithoutWhatTheirKindHas(t *testing.T) {
	for kind, s := range eachStmt() {
		bare := impl.Stmt{Kind: kind, Name: s.Name, Line: s.Line}
		if impl.StmtOk(bare) != (kind == impl.SBase || kind == impl.STarget || kind == impl.SVar) {
			t.Errorf("Kind %d with its Name alone: %v", kind, impl.StmtOk(bare))
		}
		checkEither(t, bare)
		checkWrongStmt(t, impl.Stmt{Kind: kind})
		checkWrongStmt(t, impl.Stmt{Kind: kind, Num: s.Num, Parts: s.Parts, Expr: s.Expr})
	}
}

func TestNumbersOfStatements(t *testing.T) {
	for _, s := range eachStmt()[impl.SPrefix : impl.SUnit+1] {
		for _, number := range append(edgeRats(), wrongRats()...) {
			s.Num = number
			checkEither(t, s)
			if impl.StmtOk(s) != (impl.RatCmp(number, ratOfInts(0, 1)) == 1 && len(impl.RatText(number)) <= 400) {
				t.Errorf("Kind %d with %v: %v", s.Kind, number, impl.StmtOk(s))
			}
		}
		for _, number := range []impl.Rat{{}, ratOfInts(0, 1), ratOfInts(-1, 1), ratOfInts(-3, 4), ratOfInts(2, 4), ratOfInts(1, 0), ratOfInts(1, -1), ratOfInts(-1, -1), ratOfInts(-2, -4), {Num: impl.FromInt(1)}} {
			s.Num = number
			checkWrongStmt(t, s)
		}
		for bytes := 390; bytes < 412; bytes++ {
			s.Num = numberOfBytes(t, bytes)
			checkEither(t, s)
			if impl.StmtOk(s) != (bytes <= impl.MaxDigits) {
				t.Errorf("Kind %d with a RatText of %d bytes: %v", s.Kind, bytes, impl.StmtOk(s))
			}
			s.Num.Num.Neg = true
			checkWrongStmt(t, s)
		}
	}
}

func TestPartsOfStatements(t *testing.T) {
	m := partOf("m", -1, 2)
	for _, s := range eachStmt()[impl.SUnit : impl.SVar+1] {
		for n := range 20 {
			s.Parts = slices.Repeat([]impl.Part{m}, n)
			checkEither(t, s)
			if impl.StmtOk(s) != (n <= impl.MaxParts) {
				t.Errorf("Kind %d with %d Parts: %v", s.Kind, n, impl.StmtOk(s))
			}
			want := map[int]string{impl.SUnit: "unit N 1/3", impl.SVar: "var v"}[s.Kind] + strings.Repeat(" m^-1/2", n)
			if n <= impl.MaxParts {
				checkSaid(t, want, want)
			} else {
				checkCode(t, want, impl.PaPart)
			}
		}
		for at := range impl.MaxParts {
			for _, wrong := range []impl.Part{{}, partOf("m", 0, 0), partOf("m", 2, 2), partOf("m", 13, 1), partOf("m", 1, 13), partOf("", 1, 1), partOf("m s", 1, 1), partOf("abcdefghijklm", 1, 1), partOf("m^2", 1, 1), partOf("m", math.MinInt, 1), partOf("m", 1, math.MinInt)} {
				s.Parts = slices.Repeat([]impl.Part{m}, impl.MaxParts)
				s.Parts[at] = wrong
				checkWrongStmt(t, s)
			}
		}
		s.Parts = make([]impl.Part, 1000000)
		checkWrongStmt(t, s)
		s.Parts = slices.Repeat([]impl.Part{m}, 1000000)
		checkWrongStmt(t, s)
	}
}

func TestFormulasOfStatements(t *testing.T) {
	for _, e := range append(memoryFormulas(), eVar("="), ePow(eVar("v"), 1, 1), eNum("0")) {
		s := impl.Stmt{Kind: impl.SForm, Name: "e", Expr: e}
		checkEither(t, s)
		if impl.StmtOk(s) != impl.ExprOk(e) {
			t.Errorf("a form with %v: %v", e, impl.StmtOk(s))
		}
	}
	// A list that holds itself has no end.
	kids := make([]impl.Expr, 2)
	kids[0], kids[1] = impl.Expr{Kind: impl.EAdd, Kids: kids}, eVar("v")
	for kind := range 6 {
		for _, name := range []string{"e", ""} {
			s := impl.Stmt{Kind: kind, Name: name, Expr: kids[0]}
			if impl.StmtOk(s) || impl.ShowLine(s) != "" || impl.ShowSource([]impl.Stmt{s}) != "" {
				t.Errorf("a formula that holds itself, Kind %d: %v", kind, impl.StmtOk(s))
			}
		}
	}
}

func TestLinesThatAreStatements(t *testing.T) {
	for _, c := range [][2]string{
		{"base m", "base m"}, {" base m", "base m"}, {"base m ", "base m"}, {"\tbase \t m\t ", "base m"}, {"base base", "base base"}, {"base abcdefghijkl", "base abcdefghijkl"}, {"target v", "target v"}, {"  target\tv  ", "target v"}, {"target target", "target target"},
		{"prefix k 1000", "prefix k 1000"}, {" prefix  k 1e3", "prefix k 1000"}, {"prefix m 1e-3", "prefix m 1/1000"}, {"prefix m 0.001", "prefix m 1/1000"}, {"prefix x 6/4", "prefix x 3/2"}, {"prefix x 4/2", "prefix x 2"}, {"prefix x 007", "prefix x 7"}, {"prefix x 1", "prefix x 1"}, {"prefix x 1.50e1", "prefix x 15"}, {"prefix prefix 2", "prefix prefix 2"}, {"prefix x 1e385", "prefix x 1" + strings.Repeat("0", 385)}, {"prefix x 1e-385", "prefix x 1/1" + strings.Repeat("0", 385)}, {"prefix x " + strings.Repeat("0", 399) + "1", "prefix x 1"},
		{"unit N 1 kg m s^-2", "unit N 1 kg m s^-2"}, {"unit rad 1", "unit rad 1"}, {"unit h 3600 s", "unit h 3600 s"}, {"unit x 1.5 m^1/2 m^-12/11", "unit x 3/2 m^1/2 m^-12/11"}, {"unit\tx\t2\tm\tm\tm\tm\tm\tm\tm\tm", "unit x 2 m m m m m m m m"}, {"unit x 1e-2 m^0", "unit x 1/100 m^0"}, {"unit unit 1 unit", "unit unit 1 unit"},
		{"var n", "var n"}, {"var h m^1/2", "var h m^1/2"}, {"var v m s^-1", "var v m s^-1"}, {"var v m m m m m m m m", "var v m m m m m m m m"}, {"var v v v^2", "var v v v^2"}, {"var var var", "var var var"}, {"  var  n\t", "var n"},
		{"form e = v", "form e = v"}, {"form e = m*v^2 / 2", "form e = m * v^2 / 2"}, {"form e = m*v^2/2", "form e = m * v^1"}, {"form\te\t=\tv\t", "form e = v"}, {" form  e  =  ( v )  ", "form e = v"}, {"form e = e", "form e = e"}, {"form form = form", "form form = form"}, {"form e = -v^-1/2", "form e = -v^-1/2"}, {"form e = 0", "form e = 0"}, {"form e = 3/4", "form e = 3/4"}, {"form e = 3 / 4", "form e = 3 / 4"}, {"form e = 1e3*( a-b )", "form e = 1000 * (a - b)"}, {"form e = v^1", "form e = v^1"},
	} {
		checkSaid(t, c[0], c[1])
		checkSaid(t, c[1], c[1])
	}
}

func TestLinesWithAWrongWord(t *testing.T) {
	for _, s := range []string{
		"", " ", "\t", " \t\t  ", "\n", "\r", "x", "bases m", "bas m", "Base m", "BASE m", "base\nm", "base\rm", "base=", "base# m", "#base m", "#", "# base m", "m", "1", "=", "= v", "e = v", "form= v", "prefixk 1", "unit1 x", "vars v", "var\x00 v", "targets v", "target\u00a0v", "\u00a0base m", "\vbase m", "base\vm", "base\fm", "é", "\xff", "\xffbase m", "base\xff m", "base,m", "units", "let x", "base_", "? m",
		strings.Repeat(" ", impl.MaxText), strings.Repeat("x", impl.MaxText), strings.Repeat("x ", impl.MaxText/2),
	} {
		checkCode(t, s, impl.PaWord)
	}
}

func TestLinesWithTooFewOrTooManyWords(t *testing.T) {
	for _, s := range []string{
		"base", " base ", "base m s", "base m s kg", "base 1 2", "base m =", "base m # x", "target", "target v w", "target 1 2", "target v #", "target = v w",
		"prefix", "prefix k", "prefix 1", "prefix k 1000 x", "prefix k 1 2", "prefix 1 x y", "prefix k x y", "prefix k 1 ^", "prefix k = 1000",
		"unit", "unit N", "unit 1", "unit N\t", "unit é", "var", " var", "var\t\t",
		"form", "form e", "form e v", "form e v = g", "form e =v", "form e ==", "form e == v", "form e=v", "form e= v", "form e=", "form e -= v", "form = e v", "form 1 v", "form e v =", "form =", "form e => v", "form e =\nv", "form e é v", "form e \u00a0= v",
	} {
		checkCode(t, s, impl.PaMany)
	}
	for n := 1; n < 30; n++ {
		for _, first := range lineNames {
			checkLine(t, first+strings.Repeat(" m", n-1))
			checkLine(t, first+strings.Repeat(" 1", n-1))
			checkLine(t, first+strings.Repeat(" =", n-1))
			checkLine(t, first+" m"+strings.Repeat(" 1", n-1))
			checkLine(t, first+" m ="+strings.Repeat(" v", n-1))
		}
	}
}

func TestLinesWithAWrongName(t *testing.T) {
	for _, name := range []string{"1", "1a", "_", "_a", "abcdefghijklm", "a-b", "a+", "a^2", "^", "a#", "#", "#a", "a=", "=", "(a)", "é", "aé", "a\xff", "\xff", "a\x00", "a\n", "a\r", "\na", "a.b", "a,", strings.Repeat("a", 1000)} {
		for _, behind := range []string{"base ", "target ", "var "} {
			checkCode(t, behind+name, impl.PaName)
		}
		for _, behind := range []string{" 1000", " 0", " x", " -1", " 1/0", " é"} {
			checkCode(t, "prefix "+name+behind, impl.PaName)
			checkCode(t, "unit "+name+behind, impl.PaName)
			checkCode(t, "unit "+name+behind+" m m^ x^1", impl.PaName)
			checkCode(t, "var "+name+behind+" m^1", impl.PaName)
		}
		for _, behind := range []string{"", " ", " v", " v =", " v = (", " = v", " ("} {
			checkCode(t, "form "+name+" ="+behind, impl.PaName)
		}
	}
	checkCode(t, "base m#", impl.PaName)
	checkCode(t, "base m\n", impl.PaName)
	checkCode(t, "target v\r", impl.PaName)
}

func TestLinesWithAWrongNumber(t *testing.T) {
	sixteen := strings.Repeat("7", 16)
	for _, number := range []string{
		"0", "00", "0.0", "0/7", "0e5", "-0", "-1", "-1/2", "-0.5", "-1e3", "1/0", "0/0", "+1", "1.", ".5", "1e", "e", "x", "1x", "1e1234", "1e999", "1e-999", "1e386", "1e-386", "--1", "1/", "/2", "1/-2", "1//2", "1/2/3", "1.5/2", "1e5.5", "1_0", "0x1", "é", "\xff", "=", "^", "m", "#", "1#", "1=", "1\n", "1\r", "٣", "∞", "NaN", "Inf",
		sixteen + "e-385", strings.Repeat("9", 386), strings.Repeat("9", 400), strings.Repeat("0", 400) + "1", strings.Repeat("1", 1000), "1/" + strings.Repeat("9", 386), strings.Repeat("7", 200) + "/" + strings.Repeat("9", 200),
	} {
		checkCode(t, "prefix k "+number, impl.PaNum)
		checkCode(t, "unit u "+number, impl.PaNum)
		checkCode(t, "unit u "+number+" m s^-1", impl.PaNum)
		checkCode(t, "unit u "+number+" m^1 s^", impl.PaNum)
		checkCode(t, "unit u "+number+strings.Repeat(" m", 9), impl.PaNum)
	}
	for _, number := range []string{sixteen[:13] + "e-385", strings.Repeat("7", 200) + "/" + strings.Repeat("9", 199)} {
		value, _ := readByWords(number)
		checkSaid(t, "prefix k "+number, "prefix k "+value.RatString())
		if n := len(value.RatString()); n != impl.MaxDigits {
			t.Errorf("%s: a RatText of %d bytes", number, n)
		}
	}
}

func TestLinesWithAWrongPart(t *testing.T) {
	for _, part := range []string{"m^", "m^1", "m^+2", "m^-0", "m^02", "m^4/2", "m^2/2", "m^2/1", "m^1.5", "m^2e0", "m^^2", "m^2^3", "^2", "^", "m^13", "m^1/13", "1", "1000", "=", "m=", "#", "m#", "_m", "abcdefghijklm", "m*s", "m/s", "é", "m\xff", "\xff", "m\n", "m\r", "m\v", "m^2,", "-m", strings.Repeat("m", 1000)} {
		for _, ahead := range []string{"", " m", " m m s^-2", strings.Repeat(" m", 7)} {
			checkCode(t, "unit u 1"+ahead+" "+part, impl.PaPart)
			checkCode(t, "var v"+ahead+" "+part, impl.PaPart)
			checkCode(t, "var v "+part+ahead, impl.PaPart)
			checkCode(t, "unit u 2/3 "+part+ahead, impl.PaPart)
		}
	}
	checkCode(t, "var v 1000 m", impl.PaPart)
	checkCode(t, "var v = m", impl.PaPart)
	for n := 9; n < 30; n++ {
		checkCode(t, "unit u 1"+strings.Repeat(" m", n), impl.PaPart)
		checkCode(t, "var v"+strings.Repeat(" m", n), impl.PaPart)
		checkCode(t, "var v"+strings.Repeat(" m^1", n), impl.PaPart)
	}
	checkCode(t, "var v"+strings.Repeat(" m", (impl.MaxText-5)/2), impl.PaPart)
}

func TestLinesWithAWrongFormula(t *testing.T) {
	for _, formula := range []string{"", " ", "\t", "  \t", " v = g", " =", " = v", " v =", " (", " v +", " + v", " v g", " 2 v", " v^", " v^13", " v^-", " v # g", " #", " v\n", " v\r", " v\v", " \u00a0v", " é", " \xff", " 1/0", " 1.", " _v", " abcdefghijklm", " v^1/2/3^", " ()", " )", " \nv", " 1e999", "\t1/" + strings.Repeat("9", 386), " " + strings.Repeat("-", 13) + "v", " " + textOfNodes(61)} {
		checkCode(t, "form e ="+formula, impl.PaExpr)
		checkCode(t, "  form\te \t="+formula, impl.PaExpr)
	}
	checkSaid(t, "form e = "+strings.Repeat("-", 12)+"v", "form e = "+strings.Repeat("-", 12)+"v")
	text := textOfNodes(60)
	e := needExpr(t, text)
	checkSaid(t, "form e = "+text, "form e = "+showByWords(e))
	// Brackets make words, but no formulas: more than MaxWords of these aren't taken.
	for n, code := range map[int]int{99: impl.PaOk, 100: impl.PaExpr} {
		s := "form e = " + strings.Repeat("(", n) + "v" + strings.Repeat(")", n)
		if _, got := impl.ParseLine(s); got != code {
			t.Errorf("%d brackets: %d, wanted %d", n, got, code)
		}
		checkLine(t, s)
	}
}

// The first of the codes is told of a text that more than one are of.
func TestTheFirstCodeIsTold(t *testing.T) {
	long := strings.Repeat(" ", impl.MaxText)
	for _, c := range []struct {
		s    string
		code int
	}{
		{long + "x", impl.PaLong}, {"x" + long, impl.PaLong}, {"base" + long, impl.PaLong}, {"base 1" + long, impl.PaLong}, {"prefix k 0" + long, impl.PaLong}, {"var v m^1" + long, impl.PaLong}, {"form e = (" + long, impl.PaLong}, {"base m" + long, impl.PaLong}, {"form e = v" + long, impl.PaLong},
		{"bases", impl.PaWord}, {"bases 1 2 3", impl.PaWord}, {"forms 1 = (", impl.PaWord}, {"prefixes 1 0", impl.PaWord}, {"", impl.PaWord},
		{"base 1 2", impl.PaMany}, {"target 1 2", impl.PaMany}, {"prefix 1 0 x", impl.PaMany}, {"unit 1", impl.PaMany}, {"form 1 (", impl.PaMany}, {"form 1 ( =", impl.PaMany}, {"prefix k 0 m^1", impl.PaMany},
		{"prefix 1 0", impl.PaName}, {"prefix 1 x", impl.PaName}, {"unit 1 0 m^1", impl.PaName}, {"unit 1 1 m^1", impl.PaName}, {"var 1 m^1", impl.PaName}, {"form 1 = (", impl.PaName}, {"form 1 =", impl.PaName},
		{"unit u 0 m^1", impl.PaNum}, {"unit u x m m m m m m m m m", impl.PaNum}, {"unit u -1 ^", impl.PaNum},
		{"unit u 1 m^1", impl.PaPart}, {"unit u 1 m m m m m m m m m^1", impl.PaPart},
	} {
		checkCode(t, c.s, c.code)
	}
}

func TestLinesAtMaxText(t *testing.T) {
	blanks := strings.Repeat(" ", impl.MaxText)
	for _, s := range []string{"base m", "prefix k 1000", "unit N 1 kg m s^-2", "var v m s^-1", "form e = m * v^2", "target v"} {
		left := impl.MaxText - len(s)
		checkSaid(t, s+blanks[:left], s)
		checkSaid(t, blanks[:left]+s, s)
		checkSaid(t, strings.Replace(s, " ", " "+blanks[:left], 1), s)
		checkSaid(t, strings.Replace(s, " ", strings.Repeat("\t", left)+" ", 1), s)
		checkSaid(t, s+blanks[:left-1], s)
		for _, beyond := range []string{s + blanks[:left+1], blanks[:left+1] + s, strings.Replace(s, " ", "  "+blanks[:left], 1), s + blanks, s + strings.Repeat(blanks, 100), s + blanks[:left] + "\n", s + blanks[:left] + "#"} {
			checkCode(t, beyond, impl.PaLong)
		}
	}
	for _, s := range []string{strings.Repeat("\xff", impl.MaxText+1), blanks + " ", strings.Repeat("base m\n", impl.MaxText), "#" + blanks, strings.Repeat("base ", 1000000)} {
		checkCode(t, s, impl.PaLong)
	}
	form := "form e =" + blanks[:impl.MaxText-9] + "v"
	checkSaid(t, form, "form e = v")
	checkCode(t, form+" ", impl.PaLong)
	checkCode(t, form[:len(form)-1]+"?", impl.PaExpr)
}

// chanceMeasure is a number above 0, now and then as long as it may be.
func chanceMeasure(r *rand.Rand) impl.Rat {
	numbers := []string{"1", "2", "1000", "1e-3", "3/4", "22/7", "12345678901234567890", "1e300", "1e-300", "1e385", strings.Repeat("7", 200) + "/" + strings.Repeat("9", 199)}
	if r.Intn(2) == 0 {
		return eNum(numbers[r.Intn(len(numbers))]).Num
	}
	for {
		number := chanceRat(r, 4)
		number.Num.Neg = false
		if rightMeasure(number) {
			return number
		}
	}
}

func chanceName(r *rand.Rand) string {
	names := []string{"m", "kg", "s", "v", "g", "N", "rho_1", "abcdefghijkl", "base", "form", "e"}
	if r.Intn(2) == 0 {
		return names[r.Intn(len(names))]
	}
	return "qZ"[r.Intn(2):][:1] + mixedText(r, "ab_e09Z", impl.MaxName-1)
}

func chanceParts(r *rand.Rand) []impl.Part {
	var list []impl.Part
	for n := r.Intn(impl.MaxParts + 1); len(list) < n; {
		p := partOf(chanceName(r), r.Intn(25)-12, 1+r.Intn(12))
		if r.Intn(3) == 0 {
			p.P, p.Q = 1, 1
		}
		if rightPart(p) {
			list = append(list, p)
		}
	}
	return list
}

// chanceStmt is a right statement with that Line.
func chanceStmt(r *rand.Rand, line int) impl.Stmt {
	s := impl.Stmt{Kind: r.Intn(6), Name: chanceName(r), Line: line}
	switch s.Kind {
	case impl.SPrefix:
		s.Num = chanceMeasure(r)
	case impl.SUnit:
		s.Num, s.Parts = chanceMeasure(r), chanceParts(r)
	case impl.SVar:
		s.Parts = chanceParts(r)
	case impl.SForm:
		s.Expr = chanceExpr(r, 1+r.Intn(20), r.Intn(8))
	}
	return s
}

// spoiledStmt has one thing changed; mostly it isn't right any more.
func spoiledStmt(r *rand.Rand, s impl.Stmt) impl.Stmt {
	odd := []int{-1, 0, 1, 2, 3, 4, 5, 6, impl.MaxText, impl.MaxText + 1, math.MinInt, math.MaxInt}
	switch r.Intn(8) {
	case 0:
		s.Kind = odd[r.Intn(len(odd))]
	case 1:
		s.Line = odd[r.Intn(len(odd))]
	case 2:
		s.Name = anyText(r)
	case 3:
		s.Num = wrongRats()[r.Intn(20)]
	case 4:
		s.Num = edgeRats()[r.Intn(40)]
	case 5:
		s.Expr = spoiledExpr(r, s.Expr)
	case 6:
		s.Parts = append(slices.Clone(s.Parts), chanceParts(r)...)
	case 7:
		s.Parts = append(slices.Clone(s.Parts), partOf("m", r.Intn(30)-15, r.Intn(15)))
	}
	return s
}

// withGaps has any number of blanks and tabs where one blank was, and at both ends.
func withGaps(r *rand.Rand, s string) string {
	gap := func() string { return mixedText(r, " \t", 2) }
	words := strings.Split(s, " ")
	text := gap()
	for _, word := range words {
		text += word + " \t"[r.Intn(2):][:1] + gap()
	}
	return text
}

func TestStatementsComeBackFromTheirLines(t *testing.T) {
	r := rand.New(rand.NewSource(72))
	for range 6000 {
		s := chanceStmt(r, r.Intn(impl.MaxText+1))
		checkRightStmt(t, s)
		text := impl.ShowLine(s)
		got, code := impl.ParseLine(withGaps(r, text))
		s.Line = 0
		if code != impl.PaOk || !sameStmt(got, s) {
			t.Errorf("%q with gaps: %v and %d", text, got, code)
		}
		for range 3 {
			checkLine(t, spoiled(r, text))
			checkLine(t, spoiled(r, spoiled(r, text)))
		}
		checkLine(t, text[:r.Intn(len(text)+1)])
		checkLine(t, text[r.Intn(len(text)+1):])
		if t.Failed() {
			return
		}
	}
}

func TestFormulasAtMaxTextComeBackFromTheirLines(t *testing.T) {
	for bytes := impl.MaxText - 20; bytes < impl.MaxText+5; bytes++ {
		e := formulaOfBytes(t, bytes)
		s := impl.Stmt{Kind: impl.SForm, Name: "e", Expr: e}
		checkRightStmt(t, s)
		text := impl.ShowLine(s)
		if len(text) != bytes+len("form e = ") {
			t.Fatal(len(text), bytes)
		}
		again, code := impl.ParseLine(text)
		if back := code == impl.PaOk && sameStmt(again, s); back != (len(text) <= impl.MaxText) || !back && (code != impl.PaLong || !isZeroStmt(again)) {
			t.Errorf("a line of %d bytes: %d", len(text), code)
		}
		list, fault := impl.ParseSource(text + "\n")
		if back := len(list) == 1 && fault == (impl.Fault{}); back != (len(text) < impl.MaxText) || !back && fault != (impl.Fault{Code: impl.PaLong}) {
			t.Errorf("a source of %d bytes: %v", len(text)+1, fault)
		}
	}
}

func TestFormulasAtMaxWordsInLines(t *testing.T) {
	down, up := tower(-1), tower(1)
	for words, last := range map[int]impl.Expr{200: up, 201: down} {
		s := impl.Stmt{Kind: impl.SForm, Name: "e", Expr: eTwo("+", eTwo("+", down, down), eTwo("+", down, last))}
		checkRightStmt(t, s)
		text := impl.ShowLine(s)
		if words <= impl.MaxWords {
			checkSaid(t, text, text)
		} else {
			checkCode(t, text, impl.PaExpr)
			checkFault(t, "\n"+text, impl.PaExpr, 2)
		}
	}
}

func TestChanceTextsOfLines(t *testing.T) {
	r := rand.New(rand.NewSource(73))
	for _, s := range append(sampleTexts(), formulaTexts()...) {
		checkLine(t, s)
		checkLine(t, "form e = "+s)
		checkLine(t, "base "+s)
		checkLine(t, "var v "+s)
		checkLine(t, "unit u "+s)
	}
	words := append([]string{"m", "v", "1", "0", "1e3", "-1", "3/4", "=", "=", "m^2", "s^-1/2", "m^1", "v*g", "(v", "+", "#", "1m", "x^", "kg"}, lineNames...)
	taken := 0
	for range 30000 {
		text := lineNames[r.Intn(6)]
		for range r.Intn(6) {
			text += " " + words[r.Intn(len(words))]
		}
		checkLine(t, text)
		if _, code := impl.ParseLine(text); code == impl.PaOk {
			taken++
		}
		checkLine(t, text+mixedText(r, "m1 ^=", 12))
		checkLine(t, anyText(r))
		if t.Failed() {
			return
		}
	}
	if taken < 1000 {
		t.Error("too few lines were taken:", taken)
	}
}

func TestSourcesThatAreStatements(t *testing.T) {
	for _, c := range [][2]string{
		{"", ""}, {"\n", ""}, {"\n\n\n", ""}, {" ", ""}, {" \t\n\t\n  ", ""}, {"#", ""}, {"# x", ""}, {"#\n#\n", ""}, {"  # x = (\n\t#base 1\n", ""}, {"##", ""}, {"#\xff\x00é", ""},
		{"base m", "1 base m"}, {"base m\n", "1 base m"}, {"base m\n\n", "1 base m"}, {"\nbase m", "2 base m"}, {"\n\n\nbase m\n", "4 base m"}, {" \n#\n\t# x\nbase m", "4 base m"}, {"base m\nbase s", "1 base m | 2 base s"}, {"base m\n\nbase s\n", "1 base m | 3 base s"},
		{"base m # a length\n\n# nothing\nvar v m\n", "1 base m | 4 var v m"}, {"base m#", "1 base m"}, {"base m#x", "1 base m"}, {"base m#x y z\nbase s#", "1 base m | 2 base s"}, {"base m # # #\n", "1 base m"}, {"base m\t#\xff\xfe", "1 base m"}, {"base m#\x00", "1 base m"}, {"base m #\r\n", "1 base m"}, {"base m # é\nvar v m # \xc3\nvar w", "1 base m | 2 var v m | 3 var w"},
		{"form e = v # + g", "1 form e = v"}, {"form e = v# + g", "1 form e = v"}, {"form e = v # (", "1 form e = v"}, {"form e = v #= g\ntarget e", "1 form e = v | 2 target e"}, {"form e = v^2#/2", "1 form e = v^2"}, {"form e = v^1#2", "1 form e = v^1"},
		{"unit u 1 m#^1", "1 unit u 1 m"}, {"unit u 1# m^1", "1 unit u 1"}, {"var v#m", "1 var v"}, {"prefix k 1000#x", "1 prefix k 1000"}, {"prefix k 1#e3", "1 prefix k 1"}, {"target v # w", "1 target v"},
		{"var v m\nbase m\nvar v m\ntarget v\nbase m", "1 var v m | 2 base m | 3 var v m | 4 target v | 5 base m"},
	} {
		checkStmts(t, c[0], c[1])
	}
}

func TestSourcesWithAFault(t *testing.T) {
	for _, c := range []struct {
		s          string
		code, line int
	}{
		{"x", impl.PaWord, 1}, {"\nx", impl.PaWord, 2}, {"\n\n\n\nx\n", impl.PaWord, 5}, {"# x\nx", impl.PaWord, 2}, {"base m\n\nbase", impl.PaMany, 3}, {"base m\nbase 1\nx", impl.PaName, 2}, {"prefix k 0\nbase", impl.PaNum, 1}, {"base m\n\n\n unit u 1 m^1", impl.PaPart, 4}, {"form e = (\nx\n", impl.PaExpr, 1}, {"base m\nform e =\n", impl.PaExpr, 2},
		{"base # m", impl.PaMany, 1}, {"base# m", impl.PaMany, 1}, {"bas#e m", impl.PaWord, 1}, {"form e = # v", impl.PaExpr, 1}, {"form e =# v", impl.PaExpr, 1}, {"form e # = v", impl.PaMany, 1}, {"form e = v + # g", impl.PaExpr, 1}, {"form e = (v # )", impl.PaExpr, 1}, {"unit u # 1", impl.PaMany, 1}, {"prefix k 1 x # y", impl.PaMany, 1}, {"unit u 1 m^#2", impl.PaPart, 1}, {"var v m^1#2", impl.PaPart, 1}, {"prefix k 1/#2", impl.PaNum, 1}, {"base _#m", impl.PaName, 1},
		{"base m\r\n", impl.PaName, 1}, {"base m\n\r\n", impl.PaWord, 2}, {"\v", impl.PaWord, 1}, {"\x00", impl.PaWord, 1}, {"\xff", impl.PaWord, 1}, {"\n\u00a0", impl.PaWord, 2}, {"base m base s", impl.PaMany, 1}, {"base m; base s", impl.PaMany, 1}, {"form e = v\n + g", impl.PaWord, 2}, {"base\nm", impl.PaMany, 1},
	} {
		checkFault(t, c.s, c.code, c.line)
	}
}

func TestSourcesAtMaxStmts(t *testing.T) {
	for _, each := range []string{"base m\n", "var v\n", "form e = v # x\n", "unit u 1 m\n", "\nbase m\n", "# x\nbase m\n\n"} {
		lines := strings.Count(each, "\n")
		full := strings.Repeat(each, impl.MaxStmts)
		list, fault := impl.ParseSource(full)
		if len(list) != impl.MaxStmts || fault != (impl.Fault{}) {
			t.Errorf("MaxStmts of %q: %d and %v", each, len(list), fault)
		}
		for _, behind := range []string{"", "\n", "\n\n\n", "   ", "# x", "\t# x\n#", "#\n\n \n"} {
			checkSource(t, full+behind)
			if list, fault := impl.ParseSource(full + behind); len(list) != impl.MaxStmts || fault != (impl.Fault{}) {
				t.Errorf("MaxStmts of %q and %q: %d and %v", each, behind, len(list), fault)
			}
		}
		for _, more := range []string{"base m", "base m\n", "var v # x", "x", "base", "base 1", "prefix k 0", "var v m^1", "form e = (", "=", "\xff", "base m\nx", "x\nbase m", "x\nx\nx", "base m\nbase m\nbase m"} {
			for ahead := range 4 {
				checkFault(t, full+strings.Repeat("\n", ahead)+more, impl.PaLong, lines*impl.MaxStmts+ahead+1)
			}
		}
		// What isn't a statement ahead of the line beyond is told; so is the line beyond, ahead of others.
		checkFault(t, strings.Repeat(each, impl.MaxStmts-1)+"base 1\nbase m\nbase m\n", impl.PaName, lines*(impl.MaxStmts-1)+1)
		checkFault(t, "var v m^1\n"+full+"base m\n", impl.PaPart, 1)
		checkFault(t, full+"base m\nbase 1\n", impl.PaLong, lines*impl.MaxStmts+1)
	}
	for n := range 130 {
		checkSource(t, strings.Repeat("base m\n", n))
		checkSource(t, strings.Repeat("base m\n", n)+"x\n")
		checkSource(t, strings.Repeat("base m\n", n)+"x\n"+strings.Repeat("base m\n", 100))
	}
}

func TestSourcesAtMaxText(t *testing.T) {
	for _, fill := range []string{" ", "\t", "\n", "#", "x"} {
		whole := "base m #" + strings.Repeat(fill, impl.MaxText-8)
		checkStmts(t, whole, "1 base m")
		checkStmts(t, whole[:impl.MaxText-1], "1 base m")
		checkFault(t, whole+fill, impl.PaLong, 0)
		checkFault(t, whole+"\n", impl.PaLong, 0)
	}
	blanks := strings.Repeat(" ", impl.MaxText)
	lines := strings.Repeat("\n", impl.MaxText)
	checkStmts(t, blanks, "")
	checkStmts(t, lines, "")
	checkStmts(t, strings.Repeat("#", impl.MaxText), "")
	checkStmts(t, lines[6:]+"base m", "3995 base m")
	checkStmts(t, blanks[6:]+"base m", "1 base m")
	checkStmts(t, "base m"+lines[6:], "1 base m")
	checkFault(t, lines[1:]+"x", impl.PaWord, impl.MaxText)
	checkFault(t, "x"+lines[1:], impl.PaWord, 1)
	checkFault(t, lines[4:]+"base", impl.PaMany, impl.MaxText-3)
	checkFault(t, "base "+strings.Repeat("m", impl.MaxText-5), impl.PaName, 1)
	for _, s := range []string{blanks + " ", lines + "\n", lines + "x", "x" + lines, "base m" + blanks, "x\n" + blanks, "#" + blanks, strings.Repeat("base m\n", 572), strings.Repeat("x\n", 2001), strings.Repeat("base m\n", 1000000), strings.Repeat("\xff", impl.MaxText+1), lines + lines} {
		checkFault(t, s, impl.PaLong, 0)
	}
	// More than MaxStmts in just MaxText bytes: the line is told.
	checkFault(t, strings.Repeat("base m\n", 571)+"#\n\n", impl.PaLong, 61)
}

func TestSourcesShown(t *testing.T) {
	if got := impl.ShowSource(nil); got != "" {
		t.Errorf("of nothing: %q", got)
	}
	if got := impl.ShowSource([]impl.Stmt{}); got != "" {
		t.Errorf("of an empty list: %q", got)
	}
	all := eachStmt()
	if got := impl.ShowSource(all); got != "base m\nprefix k 1000\nunit N 1/3 kg m^1/2 s^-2\nvar v kg m^1/2 s^-2\nform e = m * v^2\ntarget v\n" {
		t.Errorf("of each Kind: %q", got)
	}
	slices.Reverse(all)
	if got := impl.ShowSource(all); got != "target v\nform e = m * v^2\nvar v kg m^1/2 s^-2\nunit N 1/3 kg m^1/2 s^-2\nprefix k 1000\nbase m\n" {
		t.Errorf("in another order: %q", got)
	}
	// Lines say where statements stood, not where they stand.
	if got := impl.ShowSource([]impl.Stmt{{Name: "m", Line: 7}, {Name: "s", Line: 7}, {Name: "kg", Line: 3}}); got != "base m\nbase s\nbase kg\n" {
		t.Errorf("with other Lines: %q", got)
	}
	for n := range 200 {
		list := slices.Repeat([]impl.Stmt{{Name: "m"}}, n)
		want := strings.Repeat("base m\n", n)
		if n > impl.MaxStmts {
			want = ""
		}
		if got := impl.ShowSource(list); got != want {
			t.Errorf("of %d: %q", n, got)
		}
		for at := 0; at < n; at += 1 + n/7 {
			spoilt := slices.Clone(list)
			spoilt[at].Line = -1
			if got := impl.ShowSource(spoilt); got != "" {
				t.Errorf("of %d, one not right: %q", n, got)
			}
		}
	}
	if got := impl.ShowSource(make([]impl.Stmt, 1000000)); got != "" {
		t.Errorf("of many: %.100q", got)
	}
	// What is shown may be longer than what is read.
	long := impl.Stmt{Kind: impl.SVar, Name: "abcdefghijkl", Parts: slices.Repeat([]impl.Part{partOf("abcdefghijkl", -11, 12)}, 8)}
	text := impl.ShowSource(slices.Repeat([]impl.Stmt{long}, impl.MaxStmts))
	if text != strings.Repeat(lineByWords(long)+"\n", impl.MaxStmts) || len(text) <= impl.MaxText {
		t.Errorf("a long source: %d bytes", len(text))
	}
	checkFault(t, text, impl.PaLong, 0)
}

// remark is what may stand from # on.
func remark(r *rand.Rand) string {
	remarks := []string{"", "#", "##", "# x", "# base m", "#=", "#\x00", "#\xff", "# é", "#\t\r", "# form e = (", "#" + mixedText(r, "m1 =^#(", 12)}
	return remarks[r.Intn(len(remarks))]
}

// remarked is a source with remarks behind its lines and lines without words between them; each statement has the Line where it stands then.
func remarked(r *rand.Rand, list []impl.Stmt) (string, []impl.Stmt) {
	var text strings.Builder
	var placed []impl.Stmt
	line := 0
	for _, s := range list {
		for r.Intn(3) == 0 {
			text.WriteString(mixedText(r, " \t", 3) + remark(r) + "\n")
			line++
		}
		text.WriteString(withGaps(r, lineByWords(s)) + remark(r) + "\n")
		line++
		s.Line = line
		placed = append(placed, s)
	}
	text.WriteString(remark(r))
	return text.String(), placed
}

func TestStatementsComeBackFromTheirSource(t *testing.T) {
	r := rand.New(rand.NewSource(74))
	read, long := 0, 0
	for round := range 2000 {
		var list []impl.Stmt
		for n := r.Intn(impl.MaxStmts + 1); len(list) < n; {
			if s := chanceStmt(r, len(list)+1); (round%8 == 0) == (len(lineByWords(s)) > 60) {
				list = append(list, s)
			}
		}
		text := impl.ShowSource(list)
		again, fault := impl.ParseSource(text)
		if len(text) > impl.MaxText {
			long++
			checkFault(t, text, impl.PaLong, 0)
			continue
		}
		read++
		if fault != (impl.Fault{}) || !slices.EqualFunc(again, list, sameStmt) {
			t.Errorf("%d statements don't come back from %.300q: %v", len(list), text, fault)
		}
		if impl.ShowSource(again) != text {
			t.Errorf("shown anew: %.300q, wanted %.300q", impl.ShowSource(again), text)
		}
		other, placed := remarked(r, list)
		checkSource(t, other)
		if got, fault := impl.ParseSource(other); len(other) <= impl.MaxText && (fault != (impl.Fault{}) || !slices.EqualFunc(got, placed, sameStmt)) {
			t.Errorf("with remarks, from %.300q: %v and %v", other, got, fault)
		}
		checkSource(t, spoiled(r, other))
		checkSource(t, strings.Replace(other, "\n", "", 1))
		checkSource(t, other[:r.Intn(len(other)+1)])
		if t.Failed() {
			return
		}
	}
	if read < 1000 || long < 50 {
		t.Error("too few sources:", read, long)
	}
}

func TestChanceTextsOfSources(t *testing.T) {
	r := rand.New(rand.NewSource(75))
	for _, s := range append(sampleTexts(), formulaTexts()...) {
		checkSource(t, s)
		checkSource(t, "base m\n"+s)
		checkSource(t, "base m # "+s)
		checkSource(t, "form e = v"+s+"\ntarget v")
	}
	pieces := []string{"base m", "var v m", "target v", "form e = v", "unit u 1 m", "prefix k 1", "x", "base", " ", "#", "# x", "\n", "\n", "\n", "\n", "\t"}
	for range 20000 {
		var text strings.Builder
		for range r.Intn(20) {
			text.WriteString(pieces[r.Intn(len(pieces))])
		}
		checkSource(t, text.String())
		if t.Failed() {
			return
		}
	}
	for range 300 {
		var text strings.Builder
		for range 40 + r.Intn(60) {
			text.WriteString("base m" + []string{"\n", "\n", "\n\n", "#\n", "\n#\n"}[r.Intn(5)])
			if r.Intn(60) == 0 {
				text.WriteString("base m^2\n")
			}
		}
		checkSource(t, text.String())
	}
}

func TestFunctionsOfSourcesAnswerAnything(t *testing.T) {
	r := rand.New(rand.NewSource(76))
	right := 0
	for range 8000 {
		s := spoiledStmt(r, chanceStmt(r, r.Intn(100)))
		if r.Intn(4) == 0 {
			s = spoiledStmt(r, s)
		}
		if rightStmt(s) {
			right++
		}
		checkEither(t, s)
		part := partOf(anyText(r), r.Intn(40)-20, r.Intn(20)-5)
		if impl.PartOk(part) != rightPart(part) {
			t.Errorf("PartOk of %v: %v", part, impl.PartOk(part))
		}
	}
	if right < 300 || right > 7700 {
		t.Error("of 8000 are right:", right)
	}
	for _, s := range []string{strings.Repeat("a1 \n\t\xff", 100000), strings.Repeat("base m\n", 100000), strings.Repeat("#", 1000000), strings.Repeat("\n", 1000000), "form e = " + strings.Repeat("(", 1000000)} {
		checkCode(t, s, impl.PaLong)
		checkFault(t, s, impl.PaLong, 0)
		checkWrongStmt(t, impl.Stmt{Name: s})
		if got, ok := impl.ReadPart(s); ok || got != (impl.Part{}) {
			t.Errorf("ReadPart of %.50q: %v", s, got)
		}
	}
}

func spanOfText(s string) span {
	return spanOf(unsafe.Slice(unsafe.StringData(s), len(s)))
}

// spansOfStmts are all pieces of memory that a list of statements holds, with their spare room.
func spansOfStmts(list []impl.Stmt) []span {
	all := []span{spanOf(list)}
	for _, s := range list {
		all = append(all, spanOfText(s.Name), spanOf(s.Num.Num.Limbs), spanOf(s.Num.Den.Limbs), spanOf(s.Parts))
		for _, p := range s.Parts {
			all = append(all, spanOfText(p.Name))
		}
		all = append(all, spansOf(s.Expr)...)
	}
	return slices.DeleteFunc(all, func(s span) bool { return s.from == s.to })
}

// stmtRooms is a record of the memory of statements, with the spare room behind each list and Name.
type stmtRooms struct {
	rooms
	parts [][]impl.Part
	stmts [][]impl.Stmt
}

func (record *stmtRooms) roomyText(s string) string {
	bytes := append([]byte(s), "behind"...)
	record.names = append(record.names, bytes)
	return unsafe.String(unsafe.SliceData(bytes), len(s))
}

func (record *stmtRooms) roomyStmts(list []impl.Stmt) []impl.Stmt {
	told := make([]impl.Stmt, 0, len(list)+3)
	for _, s := range list {
		s.Name = record.roomyText(s.Name)
		s.Num = roomyRat(s.Num, 7)
		record.limbs = append(record.limbs, wholeRoom(s.Num.Num), wholeRoom(s.Num.Den))
		parts := make([]impl.Part, 0, len(s.Parts)+3)
		for _, p := range s.Parts {
			p.Name = record.roomyText(p.Name)
			parts = append(parts, p)
		}
		spare := parts[:cap(parts)]
		for i := len(parts); i < len(spare); i++ {
			spare[i] = partOf("spare", 5, 7)
		}
		record.parts = append(record.parts, spare)
		s.Parts = parts
		s.Expr = record.roomyExpr(s.Expr)
		told = append(told, s)
	}
	spare := told[:cap(told)]
	for i := len(told); i < len(spare); i++ {
		spare[i] = impl.Stmt{Name: "spare", Line: 5}
	}
	record.stmts = append(record.stmts, spare)
	return told
}

// writtenThere is all that stands in the rooms, where it can be compared.
func (record *stmtRooms) writtenThere() string {
	var text strings.Builder
	number := func(list ...int) {
		for _, n := range list {
			text.WriteString(strconv.Itoa(n) + " ")
		}
	}
	for _, list := range record.parts {
		for _, p := range list {
			number(p.P, p.Q, len(p.Name), int(spanOfText(p.Name).from))
		}
	}
	for _, list := range record.stmts {
		for _, s := range list {
			number(s.Kind, s.Line, s.Expr.Kind, s.Expr.P, s.Expr.Q, len(s.Name), len(s.Parts), cap(s.Parts), len(s.Expr.Kids), cap(s.Expr.Kids), len(s.Expr.Name))
			for _, room := range spansOfStmts([]impl.Stmt{s})[1:] {
				number(int(room.from), int(room.to))
			}
			text.WriteString(strconv.FormatBool(s.Num.Num.Neg) + strconv.FormatBool(s.Num.Den.Neg))
		}
	}
	return text.String() + record.written()
}

func (record *stmtRooms) spansThere() []span {
	list := record.spans()
	for _, room := range record.parts {
		list = append(list, spanOf(room))
	}
	for _, room := range record.stmts {
		list = append(list, spanOf(room))
	}
	return list
}

// overwriteNames writes into all texts of the rooms.
func (record *stmtRooms) overwriteNames() {
	for _, bytes := range record.names {
		for i := range bytes {
			bytes[i] = 'Q'
		}
	}
}

// overwriteStmts writes into all of a list that can be written into.
func overwriteStmts(list []impl.Stmt) {
	whole := list[:cap(list)]
	for i := range whole {
		if i < len(list) {
			scribble(wholeRoom(list[i].Num.Num))
			scribble(wholeRoom(list[i].Num.Den))
			overwrite(list[i].Expr)
			parts := list[i].Parts[:cap(list[i].Parts)]
			for j := range parts {
				parts[j] = partOf("other", -5, 3)
			}
		}
		whole[i] = impl.Stmt{Kind: -5, Name: "other", Line: 9}
	}
}

// memoryStmts are right ones and wrong ones, of all Kinds.
func memoryStmts() []impl.Stmt {
	r := rand.New(rand.NewSource(77))
	list := append(eachStmt(), impl.Stmt{}, impl.Stmt{Name: "m", Line: -1}, impl.Stmt{Kind: impl.SVar, Name: "v", Parts: slices.Repeat([]impl.Part{partOf("m", 1, 1)}, 8)}, impl.Stmt{Kind: impl.SVar, Name: "v", Parts: slices.Repeat([]impl.Part{partOf("m", 1, 1)}, 9)}, impl.Stmt{Kind: impl.SVar, Name: "v", Parts: []impl.Part{partOf("m", 2, 2)}}, impl.Stmt{Kind: impl.SUnit, Name: "u", Num: ratOfInts(1, 1)}, impl.Stmt{Kind: impl.SPrefix, Name: "k", Num: ratOfInts(2, 4)}, impl.Stmt{Kind: 9, Name: "x", Num: ratOfInts(1, 3), Parts: make([]impl.Part, 2), Expr: eVar("v")}, impl.Stmt{Kind: impl.SForm, Name: "e", Expr: eMany(60, eVar("v"))}, impl.Stmt{Kind: impl.SForm, Name: "e", Expr: eVar("v")})
	for range 60 {
		s := chanceStmt(r, r.Intn(50))
		list = append(list, s, spoiledStmt(r, s))
	}
	return list
}

func TestStatementsThatAreAskedAreNotWrittenInto(t *testing.T) {
	for _, s := range memoryStmts() {
		var record stmtRooms
		given := record.roomyStmts([]impl.Stmt{s})
		kept := record.writtenThere()
		ok, text := impl.StmtOk(given[0]), impl.ShowLine(given[0])
		if record.writtenThere() != kept {
			t.Fatalf("%v is written into", s)
		}
		if meets([]span{spanOfText(text)}, record.spansThere()) {
			t.Errorf("ShowLine of %v shares memory", s)
		}
		want := ""
		if rightStmt(s) {
			want = lineByWords(s)
		}
		record.overwriteNames()
		if ok != rightStmt(s) || text != want {
			t.Errorf("%v with spare room: %v %.300q, wanted %.300q", s, ok, text, want)
		}
	}
}

func TestSourcesThatAreShownAreNotWrittenInto(t *testing.T) {
	all := memoryStmts()
	right := slices.DeleteFunc(slices.Clone(all), func(s impl.Stmt) bool { return !rightStmt(s) })
	for _, list := range [][]impl.Stmt{nil, right[:1], right[:2], right[:6], right[:min(60, len(right))], slices.Repeat(right[:1], 60), slices.Repeat(right[:1], 61), all[:12], all[3:40], all} {
		var record stmtRooms
		given := record.roomyStmts(list)
		kept := record.writtenThere()
		text, again := impl.ShowSource(given), impl.ShowSource(given)
		if record.writtenThere() != kept {
			t.Fatalf("%d statements are written into", len(list))
		}
		if meets([]span{spanOfText(text)}, append(record.spansThere(), spanOfText(again))) {
			t.Errorf("ShowSource of %d statements shares memory", len(list))
		}
		want := ""
		for _, s := range list {
			if len(list) > 60 || slices.ContainsFunc(list, func(s impl.Stmt) bool { return !rightStmt(s) }) {
				break
			}
			want += lineByWords(s) + "\n"
		}
		record.overwriteNames()
		if text != want || again != want {
			t.Errorf("ShowSource of %d statements with spare room: %.300q, wanted %.300q", len(list), text, want)
		}
	}
}

func TestPartsAreNeitherKeptNorWrittenInto(t *testing.T) {
	for _, part := range []impl.Part{partOf("m", 1, 1), partOf("abcdefghijkl", 1, 1), partOf("m", 2, 1), partOf("kg", -3, 2), partOf("m", 0, 1), partOf("m", 2, 2), partOf("", 1, 1), partOf("1", 1, 1), partOf("abcdefghijklm", 1, 1)} {
		var record stmtRooms
		given := part
		given.Name = record.roomyText(part.Name)
		kept := record.writtenThere()
		ok, text := impl.PartOk(given), impl.PartText(given)
		if record.writtenThere() != kept || meets([]span{spanOfText(text)}, record.spansThere()) {
			t.Errorf("%v is written into, or its text shares memory", part)
		}
		want := ""
		if rightPart(part) {
			want = partTextByWords(part)
		}
		record.overwriteNames()
		if ok != rightPart(part) || text != want {
			t.Errorf("%v with spare room: %v %q, wanted %q", part, ok, text, want)
		}
	}
	for _, s := range []string{"m", "abcdefghijkl", "m^2", "kg^-3/2", "m^0", "m^1", "m^", "", "^", "1", "abcdefghijklm"} {
		var record stmtRooms
		given := record.roomyText(s)
		kept := record.writtenThere()
		part, ok := impl.ReadPart(given)
		if record.writtenThere() != kept || part.Name != "" && meets([]span{spanOfText(part.Name)}, record.spansThere()) {
			t.Errorf("%q is written into, or its part shares memory", s)
		}
		record.overwriteNames()
		if want, wantOk := readPartByWords(s); part != want || ok != wantOk {
			t.Errorf("%q is kept: %v %v", s, part, ok)
		}
	}
}

// checkReadMemory reads a text that can be written into, and wants new memory of each answer.
func checkReadMemory(t *testing.T, s string, read func(s string) []impl.Stmt) {
	t.Helper()
	var record stmtRooms
	given := record.roomyText(s)
	kept := record.writtenThere()
	first, second := read(given), read(given)
	if record.writtenThere() != kept {
		t.Fatalf("%.100q is written into", s)
	}
	if meets(spansOfStmts(first), record.spansThere()) || meetsItself(spansOfStmts(first)) || meets(spansOfStmts(first), spansOfStmts(second)) {
		t.Errorf("what is read of %.100q shares memory", s)
	}
	record.overwriteNames()
	want := read(s)
	if !slices.EqualFunc(first, want, sameStmt) {
		t.Errorf("%.100q is kept", s)
	}
	overwriteStmts(first)
	if !slices.EqualFunc(second, want, sameStmt) || !slices.EqualFunc(read(s), want, sameStmt) {
		t.Errorf("what is read of %.100q hangs on an earlier answer", s)
	}
}

func TestLinesAndSourcesThatAreReadTellNewMemory(t *testing.T) {
	readLine := func(s string) []impl.Stmt {
		line, _ := impl.ParseLine(s)
		return []impl.Stmt{line}
	}
	readSource := func(s string) []impl.Stmt {
		list, _ := impl.ParseSource(s)
		return list
	}
	lines := []string{"base m", "prefix k 1000", "prefix k 1", "unit u 1 m m m", "unit N 1/3 kg m^1/2 s^-2", "var v m s^-1", "var v", "form e = m * v^2 / 2 - 1e30", "form e = v", "target v", "x", "base 1", "unit u 1 m^1", "form e = (", ""}
	for _, s := range lines {
		checkReadMemory(t, s, readLine)
		checkReadMemory(t, s, readSource)
		checkReadMemory(t, s+" # x\n\n"+s+"\n", readSource)
	}
	checkReadMemory(t, strings.Join(lines[:10], "\n"), readSource)
	checkReadMemory(t, strings.Repeat("unit u 1 m m\n", 60), readSource)
	checkReadMemory(t, strings.Repeat("base m\n", 61), readSource)
	r := rand.New(rand.NewSource(78))
	for range 200 {
		s := lineByWords(chanceStmt(r, 0))
		checkReadMemory(t, s, readLine)
		checkReadMemory(t, s+"\n"+lineByWords(chanceStmt(r, 0)), readSource)
	}
}
