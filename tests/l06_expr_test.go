package tests

import (
	"math"
	"math/big"
	"math/rand"
	"slices"
	"strconv"
	"strings"
	"testing"
	"unsafe"

	"loop.example/g00676/impl"
)

const signsOfPairs = "+-*/"

func eNum(s string) impl.Expr {
	value, _ := readByWords(s)
	return impl.Expr{Kind: 0, Num: fromRatOracle(value)}
}

func eVar(name string) impl.Expr {
	return impl.Expr{Kind: 1, Name: name}
}

func eTwo(sign string, left impl.Expr, right impl.Expr) impl.Expr {
	return impl.Expr{Kind: 2 + strings.Index(signsOfPairs, sign), Kids: []impl.Expr{left, right}}
}

func eNeg(kid impl.Expr) impl.Expr {
	return impl.Expr{Kind: 6, Kids: []impl.Expr{kid}}
}

func ePow(kid impl.Expr, p int, q int) impl.Expr {
	return impl.Expr{Kind: 7, P: p, Q: q, Kids: []impl.Expr{kid}}
}

// eNegs is a formula that has another one so deep.
func eNegs(deep int, kid impl.Expr) impl.Expr {
	for range deep {
		kid = eNeg(kid)
	}
	return kid
}

// eMany is a sum of so many formulas in all, as flat as it may be.
func eMany(nodes int, leaf impl.Expr) impl.Expr {
	switch nodes {
	case 1:
		return leaf
	case 2:
		return eNeg(leaf)
	}
	left := (nodes - 1) / 2
	return eTwo("+", eMany(left, leaf), eMany(nodes-1-left, leaf))
}

func sameExpr(a impl.Expr, b impl.Expr) bool {
	return a.Kind == b.Kind && sameRat(a.Num, b.Num) && a.Name == b.Name && a.P == b.P && a.Q == b.Q && slices.EqualFunc(a.Kids, b.Kids, sameExpr)
}

func isZeroExpr(e impl.Expr) bool {
	return sameExpr(e, impl.Expr{})
}

// toldExpr writes a right formula as the tables below have it, each Kind with brackets of its own.
func toldExpr(e impl.Expr) string {
	switch {
	case e.Kind == 0:
		return ratOracle(e.Num).RatString()
	case e.Kind == 1:
		return e.Name
	case e.Kind == 6:
		return "[neg " + toldExpr(e.Kids[0]) + "]"
	case e.Kind == 7:
		return "[" + toldExpr(e.Kids[0]) + " ^ " + strconv.Itoa(e.P) + ":" + strconv.Itoa(e.Q) + "]"
	}
	return "[" + toldExpr(e.Kids[0]) + " " + signsOfPairs[e.Kind-2:e.Kind-1] + " " + toldExpr(e.Kids[1]) + "]"
}

func ratByWords(r impl.Rat) bool {
	for _, x := range []impl.Big{r.Num, r.Den} {
		if n := len(x.Limbs); n > 40 || n == 0 && x.Neg || n > 0 && x.Limbs[n-1] == 0 {
			return false
		}
	}
	return oracle(r.Den).Sign() > 0 && new(big.Int).GCD(nil, nil, new(big.Int).Abs(oracle(r.Num)), oracle(r.Den)).Cmp(big.NewInt(1)) == 0
}

func numberByWords(r impl.Rat) bool {
	return ratByWords(r) && !r.Num.Neg && len(ratOracle(r).RatString()) <= 400
}

func nameByWords(s string) bool {
	return len(s) <= 12 && s != "" && formOfName.FindString(s) == s
}

func powerByWords(p int, q int) bool {
	if p < -12 || p > 12 || q < 1 || q > 12 {
		return false
	}
	for d := 2; d <= 12; d++ {
		if p%d == 0 && q%d == 0 {
			return false
		}
	}
	return true
}

// fieldsByWords tells whether a formula has what its Kind has, and nothing else.
func fieldsByWords(e impl.Expr) bool {
	if e.Kind < 0 || e.Kind > 7 || len(e.Kids) != []int{0, 0, 2, 2, 2, 2, 1, 1}[e.Kind] {
		return false
	}
	number, name, power := isZeroRat(e.Num), e.Name == "", e.P == 0 && e.Q == 0
	switch e.Kind {
	case 0:
		number = numberByWords(e.Num)
	case 1:
		name = nameByWords(e.Name)
	case 7:
		power = powerByWords(e.P, e.Q)
	}
	return number && name && power
}

// okByWords is ExprOk in another way: one depth behind the other.
func okByWords(e impl.Expr) bool {
	level, all := []impl.Expr{e}, 0
	for deep := 0; len(level) > 0; deep++ {
		all += len(level)
		if deep > 12 || all > 60 {
			return false
		}
		var next []impl.Expr
		for _, x := range level {
			if !fieldsByWords(x) {
				return false
			}
			next = append(next, x.Kids...)
		}
		level = next
	}
	return true
}

func countByWords(e impl.Expr) int {
	all := 1
	for _, kid := range e.Kids {
		all += countByWords(kid)
	}
	return all
}

func namesByWords(e impl.Expr) []string {
	names := map[string]bool{}
	var walk func(e impl.Expr)
	walk = func(e impl.Expr) {
		if e.Kind == 1 {
			names[e.Name] = true
		}
		for _, kid := range e.Kids {
			walk(kid)
		}
	}
	walk(e)
	var list []string
	for name := range names {
		at := slices.IndexFunc(list, func(other string) bool { return beforeByBytes(name, other) })
		if at < 0 {
			at = len(list)
		}
		list = slices.Insert(list, at, name)
	}
	return list
}

func putByWords(e impl.Expr, name string, with impl.Expr) impl.Expr {
	if e.Kind == 1 && e.Name == name {
		return with
	}
	kids := slices.Clone(e.Kids)
	for i := range kids {
		kids[i] = putByWords(kids[i], name, with)
	}
	e.Kids = kids
	return e
}

// bracketedByWords tells whether a kid stands in brackets, as the document lists it.
func bracketedByWords(kind int, place int, kid int) bool {
	pair := kind >= 2 && kind <= 5
	switch kid {
	case 2, 3:
		return !(place == 0 && (kind == 2 || kind == 3))
	case 4, 5:
		return place == 1 && (kind == 4 || kind == 5) || !pair
	case 6, 7:
		return kind == 7
	}
	return false
}

func showByWords(e impl.Expr) string {
	var kids []string
	for i, kid := range e.Kids {
		text := showByWords(kid)
		if bracketedByWords(e.Kind, i, kid.Kind) {
			text = "(" + text + ")"
		}
		kids = append(kids, text)
	}
	switch e.Kind {
	case 0:
		return ratOracle(e.Num).RatString()
	case 1:
		return e.Name
	case 6:
		return "-" + kids[0]
	case 7:
		return kids[0] + "^" + big.NewRat(int64(e.P), int64(e.Q)).RatString()
	}
	return strings.Join(kids, " "+signsOfPairs[e.Kind-2:e.Kind-1]+" ")
}

// powerOfWord is what stands behind ^ as an EPow has it.
func powerOfWord(w impl.Token) (int, int, bool) {
	value, ok := readByWords(w.Text)
	if w.Kind != 1 || !ok || !value.Num().IsInt64() || !value.Denom().IsInt64() {
		return 0, 0, false
	}
	p, q := int(value.Num().Int64()), int(value.Denom().Int64())
	return p, q, powerByWords(p, q)
}

func numberOfWord(w impl.Token) (impl.Rat, bool) {
	value, ok := readByWords(w.Text)
	if w.Kind != 1 || !ok {
		return impl.Rat{}, false
	}
	number := fromRatOracle(value)
	return number, numberByWords(number)
}

// What may come next, as misfitByWords goes through the words.
const (
	wantsPart = iota + 1
	hasPart
	wantsPower
	wantsNumber
	hasPower
)

// misfitByWords is the place of the first word that doesn't fit, in another way: by what may come next, and how many brackets are open.
func misfitByWords(words []impl.Token, end int) int {
	state, open := wantsPart, 0
	for _, w := range words {
		_, _, power := powerOfWord(w)
		_, number := numberOfWord(w)
		next := 0
		switch has := state == hasPart || state == hasPower; {
		case state == wantsPart && (w.Kind == 0 || number):
			next = hasPart
		case state == wantsPart && w.Text == "-":
			next = wantsPart
		case state == wantsPart && w.Text == "(":
			next, open = wantsPart, open+1
		case state == hasPart && w.Text == "^":
			next = wantsPower
		case state == wantsPower && w.Text == "-":
			next = wantsNumber
		case (state == wantsPower || state == wantsNumber) && power:
			next = hasPower
		case has && strings.Contains(signsOfPairs, w.Text):
			next = wantsPart
		case has && w.Text == ")" && open > 0:
			next, open = hasPart, open-1
		}
		if next == 0 {
			return w.At
		}
		state = next
	}
	if open > 0 || state != hasPart && state != hasPower {
		return end
	}
	return 0
}

// lastOutside is the place of the last of these signs that stands in no brackets and between two formulas; -1 where there is none.
func lastOutside(words []impl.Token, signs string) int {
	last, open := -1, 0
	for i, w := range words {
		switch {
		case w.Text == "(":
			open++
		case w.Text == ")":
			open--
		case i > 0 && open == 0 && w.Kind == 2 && strings.Contains(signs, w.Text) && (words[i-1].Kind != 2 || words[i-1].Text == ")"):
			last = i
		}
	}
	return last
}

// treeByWords is the formula of words that all fit, in another way: cut at the last sign that binds the least.
func treeByWords(words []impl.Token) impl.Expr {
	for _, signs := range []string{"+-", "*/"} {
		if at := lastOutside(words, signs); at >= 0 {
			return eTwo(words[at].Text, treeByWords(words[:at]), treeByWords(words[at+1:]))
		}
	}
	if words[0].Text == "-" {
		return eNeg(treeByWords(words[1:]))
	}
	last := len(words) - 1
	if at := lastOutside(words, "^"); at >= 0 {
		p, q, _ := powerOfWord(words[last])
		if words[at+1].Text == "-" {
			p = -p
		}
		return ePow(treeByWords(words[:at]), p, q)
	}
	switch words[0].Kind {
	case 0:
		return eVar(words[0].Text)
	case 1:
		number, _ := numberOfWord(words[0])
		return impl.Expr{Num: number}
	}
	return treeByWords(words[1:last])
}

func parseByWords(s string) (impl.Expr, int) {
	words, place := lexByWords(s)
	if place == 0 {
		place = misfitByWords(words, len(s)+1)
	}
	if place != 0 {
		return impl.Expr{}, place
	}
	if e := treeByWords(words); okByWords(e) {
		return e, 0
	}
	return impl.Expr{}, 1
}

func checkParse(t *testing.T, s string) {
	t.Helper()
	got, place := impl.ParseExpr(s)
	want, wantPlace := parseByWords(s)
	if place != wantPlace || !sameExpr(got, want) {
		t.Errorf("ParseExpr of %.300q: %v and %d, wanted %v and %d", s, got, place, want, wantPlace)
	}
	if place < 0 || place > len(s)+1 {
		t.Errorf("ParseExpr of %.300q: the place %d is not within it, nor just behind", s, place)
	}
}

// checkFormula wants the text to be read as a formula, told by toldExpr.
func checkFormula(t *testing.T, s string, want string) {
	t.Helper()
	if got, place := impl.ParseExpr(s); place != 0 || !okByWords(got) || toldExpr(got) != want {
		t.Errorf("ParseExpr of %.300q: %v and %d, wanted %.300s", s, got, place, want)
	}
	checkParse(t, s)
}

func checkMisfit(t *testing.T, s string, want int) {
	t.Helper()
	if got, place := impl.ParseExpr(s); place != want || !isZeroExpr(got) {
		t.Errorf("ParseExpr of %.300q: %v and %d, wanted nothing and %d", s, got, place, want)
	}
	checkParse(t, s)
}

// checkRight holds all that is told of a right formula against the second reckoning.
func checkRight(t *testing.T, e impl.Expr) {
	t.Helper()
	if !okByWords(e) || !impl.ExprOk(e) {
		t.Errorf("%v: ExprOk %v, in another way %v", e, impl.ExprOk(e), okByWords(e))
		return
	}
	text := impl.ShowExpr(e)
	if text != showByWords(e) {
		t.Errorf("ShowExpr of %s: %q, wanted %q", toldExpr(e), text, showByWords(e))
	}
	if got := impl.Nodes(e); got != countByWords(e) {
		t.Errorf("Nodes of %s: %d", toldExpr(e), got)
	}
	if got := impl.NamesOf(e); !slices.Equal(got, namesByWords(e)) {
		t.Errorf("NamesOf of %s: %q", toldExpr(e), got)
	}
	checkComesBack(t, e, text)
}

// checkComesBack reads a formula's text anew; where that is too long, or has too many words, it is refused.
func checkComesBack(t *testing.T, e impl.Expr, text string) {
	t.Helper()
	again, place := impl.ParseExpr(text)
	if _, taken := lexByWords(text); taken != 0 {
		if place != taken || !isZeroExpr(again) {
			t.Errorf("%.300q: %v and %d, wanted %d", text, again, place, taken)
		}
		return
	}
	if place != 0 || !sameExpr(again, e) {
		t.Errorf("%s doesn't come back from %.300q: %v and %d", toldExpr(e), text, again, place)
	}
	checkParse(t, text)
}

// checkWrong wants each function's one answer to what isn't ExprOk.
func checkWrong(t *testing.T, e impl.Expr) {
	t.Helper()
	if impl.ExprOk(e) || impl.ShowExpr(e) != "" || len(impl.NamesOf(e)) != 0 || impl.Nodes(e) != 0 {
		t.Errorf("Kind %d: ExprOk %v, ShowExpr %q, NamesOf %q, Nodes %d of what isn't right", e.Kind, impl.ExprOk(e), impl.ShowExpr(e), impl.NamesOf(e), impl.Nodes(e))
	}
	for _, name := range []string{"v", "x", "", "none"} {
		for _, other := range []impl.Expr{eVar("v"), eNum("1"), eTwo("+", eVar("x"), eVar("v")), {}, e} {
			got, ok := impl.Put(e, name, other)
			back, backOk := impl.Put(other, name, e)
			if ok || backOk || !isZeroExpr(got) || !isZeroExpr(back) {
				t.Errorf("Put with what isn't right: %v %v, %v %v", got, ok, back, backOk)
			}
		}
	}
}

func TestConstantsOfFormulas(t *testing.T) {
	kinds := []int{impl.ENum, impl.EVar, impl.EAdd, impl.ESub, impl.EMul, impl.EDiv, impl.ENeg, impl.EPow}
	if !slices.Equal(kinds, []int{0, 1, 2, 3, 4, 5, 6, 7}) || impl.MaxNodes != 60 || impl.MaxDeep != 12 || impl.MaxExp != 12 {
		t.Error(kinds, impl.MaxNodes, impl.MaxDeep, impl.MaxExp)
	}
}

// eachKind is a right formula of each Kind.
func eachKind() []impl.Expr {
	a, b := eVar("a"), eVar("b")
	return []impl.Expr{eNum("3/4"), eVar("v"), eTwo("+", a, b), eTwo("-", a, b), eTwo("*", a, b), eTwo("/", a, b), eNeg(a), ePow(a, 2, 1)}
}

func TestFormulasOfEachKind(t *testing.T) {
	for kind, e := range eachKind() {
		if e.Kind != kind {
			t.Fatal(e)
		}
		checkRight(t, e)
		for _, other := range []int{-1, -2, -7, 8, 9, 15, 256, 263, -249, 1 << 32, 1<<32 + 1, math.MinInt, math.MaxInt} {
			wrong := e
			wrong.Kind = other
			checkWrong(t, wrong)
			checkWrong(t, eNeg(wrong))
		}
		for other := range 8 {
			changed := e
			changed.Kind = other
			if alike := kind == other || kind >= 2 && kind <= 5 && other >= 2 && other <= 5; impl.ExprOk(changed) != alike {
				t.Errorf("what Kind %d has, as Kind %d: %v", kind, other, !alike)
			}
			checkInPlaces(t, changed)
		}
		empty := e
		if len(empty.Kids) == 0 {
			empty.Kids = []impl.Expr{}
		}
		if kind != impl.ENum {
			empty.Num = impl.Rat{Num: impl.Big{Limbs: []uint32{}}, Den: impl.Big{Limbs: []uint32{}}}
		}
		checkRight(t, empty)
	}
	checkWrong(t, impl.Expr{})
}

// checkInPlaces asks for a formula alone and as each kid: it is right everywhere or nowhere.
func checkInPlaces(t *testing.T, e impl.Expr) {
	t.Helper()
	v := eVar("v")
	for _, whole := range []impl.Expr{e, eNeg(e), ePow(e, -1, 2), eTwo("+", e, v), eTwo("-", v, e), eTwo("*", e, v), eTwo("/", v, e), eTwo("*", v, eNeg(eTwo("-", ePow(e, 3, 1), v)))} {
		if okByWords(whole) {
			checkRight(t, whole)
		} else {
			checkWrong(t, whole)
		}
	}
}

func TestFieldsThatAKindHasNot(t *testing.T) {
	has := []string{"n", "v", "k", "k", "k", "k", "k", "kp"}
	for kind, e := range eachKind() {
		for _, c := range []struct {
			field  string
			change func(e *impl.Expr)
		}{
			{"n", func(e *impl.Expr) { e.Num = ratOfInts(0, 1) }}, {"n", func(e *impl.Expr) { e.Num = ratOfInts(7, 2) }}, {"n", func(e *impl.Expr) { e.Num.Num.Neg = true }}, {"n", func(e *impl.Expr) { e.Num.Den.Neg = true }}, {"n", func(e *impl.Expr) { e.Num.Num = bigOfLimbs(false, 0) }}, {"n", func(e *impl.Expr) { e.Num.Den = impl.FromInt(1) }}, {"n", func(e *impl.Expr) { e.Num.Num = impl.FromInt(1) }},
			{"v", func(e *impl.Expr) { e.Name = "x" }}, {"v", func(e *impl.Expr) { e.Name = " " }}, {"v", func(e *impl.Expr) { e.Name = "\x00" }},
			{"p", func(e *impl.Expr) { e.P = 1 }}, {"p", func(e *impl.Expr) { e.P = -1 }}, {"p", func(e *impl.Expr) { e.Q = 1 }}, {"p", func(e *impl.Expr) { e.Q = -1 }}, {"p", func(e *impl.Expr) { e.P, e.Q = 1, 1 }}, {"p", func(e *impl.Expr) { e.P = math.MinInt }}, {"p", func(e *impl.Expr) { e.Q = math.MinInt }},
			{"k", func(e *impl.Expr) { e.Kids = []impl.Expr{eVar("x")} }}, {"k", func(e *impl.Expr) { e.Kids = make([]impl.Expr, 1) }}, {"k", func(e *impl.Expr) { e.Kids = []impl.Expr{eVar("x"), eVar("y")} }},
		} {
			if strings.Contains(has[kind], c.field) {
				continue
			}
			wrong := e
			c.change(&wrong)
			checkWrong(t, wrong)
			checkInPlaces(t, wrong)
		}
	}
}

func TestHowManyKids(t *testing.T) {
	for kind, e := range eachKind() {
		for _, n := range []int{0, 1, 2, 3, 4, 5, 59, 60, 61, 1000} {
			changed := e
			changed.Kids = slices.Repeat([]impl.Expr{eVar("a")}, n)
			if impl.ExprOk(changed) != (n == []int{0, 0, 2, 2, 2, 2, 1, 1}[kind]) {
				t.Errorf("Kind %d with %d Kids: %v", kind, n, impl.ExprOk(changed))
			}
			checkInPlaces(t, changed)
		}
	}
}

// numberOfBytes is a number whose RatText has so many bytes, a stroke in their middle.
func numberOfBytes(t *testing.T, bytes int) impl.Rat {
	t.Helper()
	half := (bytes - 1) / 2
	num, den := tenTo(bytes-1-half-1), new(big.Int).Add(tenTo(half-1), big.NewInt(1))
	number := needRatOf(t, num, den)
	if len(impl.RatText(number)) != bytes {
		t.Fatal("not of so many bytes:", bytes, len(impl.RatText(number)))
	}
	return number
}

func TestNumbersInFormulas(t *testing.T) {
	for _, r := range append(edgeRats(), wrongRats()...) {
		checkInPlaces(t, impl.Expr{Num: r})
		if impl.ExprOk(impl.Expr{Num: r}) != (impl.RatOk(r) && !r.Num.Neg && len(impl.RatText(r)) <= 400) {
			t.Errorf("ENum of %v: %v", r, impl.ExprOk(impl.Expr{Num: r}))
		}
	}
	for bytes := 390; bytes < 412; bytes++ {
		number := numberOfBytes(t, bytes)
		if impl.ExprOk(impl.Expr{Num: number}) != (bytes <= impl.MaxDigits) {
			t.Errorf("a RatText of %d bytes: %v", bytes, bytes > impl.MaxDigits)
		}
		checkInPlaces(t, impl.Expr{Num: number})
		number.Num.Neg = true
		checkWrong(t, impl.Expr{Num: number})
	}
	for _, s := range []string{"0", "1", "2", "1/2", "340282366920938463463374607431768211456"} {
		e := eNum(s)
		if !impl.ExprOk(e) || impl.ShowExpr(e) != s {
			t.Error(s, e)
		}
		if s != "0" {
			e.Num.Num.Neg = true
			checkWrong(t, e)
		}
	}
}

func TestNamesInFormulas(t *testing.T) {
	for _, name := range []string{"v", "Z", "a_", "a1", "abcdefghijkl", "Z___________", "e", "e5"} {
		checkRight(t, eVar(name))
		checkInPlaces(t, eVar(name))
	}
	for _, name := range append([]string{"", "1", "1a", "_", "_a", "abcdefghijklm", "a b", "a ", " a", "a-b", "a+", "(a)", "é", "a\xff", "a\x00", "a\n", strings.Repeat("a", 100000)}, sampleTexts()[:300]...) {
		if nameByWords(name) {
			continue
		}
		checkWrong(t, eVar(name))
		checkWrong(t, eNeg(eVar(name)))
	}
}

func TestPowersInFormulas(t *testing.T) {
	far := []int{-13, -24, 13, 14, 24, 100, math.MinInt, math.MinInt + 1, math.MaxInt, 1 << 32, 1<<32 + 1, -1 << 32}
	for p := -13; p <= 13; p++ {
		for q := -13; q <= 13; q++ {
			e := ePow(eVar("v"), p, q)
			if impl.ExprOk(e) != (p >= -12 && p <= 12 && q >= 1 && q <= 12 && impl.Gcd(p, q) == 1) {
				t.Errorf("the power %d divided by %d: %v", p, q, impl.ExprOk(e))
			}
			checkInPlaces(t, e)
		}
		for _, q := range far {
			checkWrong(t, ePow(eVar("v"), p, q))
			checkWrong(t, ePow(eVar("v"), q, p))
		}
	}
	for _, p := range far {
		for _, q := range far {
			checkWrong(t, ePow(eVar("v"), p, q))
		}
	}
	for _, c := range [][2]int{{0, 1}, {1, 1}, {-12, 1}, {12, 1}, {1, 12}, {-1, 12}, {11, 12}, {-11, 12}, {12, 11}, {-12, 11}, {5, 12}} {
		checkRight(t, ePow(eVar("v"), c[0], c[1]))
	}
	for _, c := range [][2]int{{0, 0}, {1, 0}, {0, 2}, {0, 12}, {0, -1}, {1, -1}, {2, 2}, {-2, 2}, {12, 12}, {-12, 12}, {6, 9}, {-12, 8}, {13, 1}, {-13, 1}, {1, 13}} {
		checkWrong(t, ePow(eVar("v"), c[0], c[1]))
	}
}

func TestFormulasAtMaxNodes(t *testing.T) {
	for _, leaf := range []impl.Expr{eVar("v"), eNum("1/3")} {
		for nodes := 1; nodes < 70; nodes++ {
			e := eMany(nodes, leaf)
			if countByWords(e) != nodes {
				t.Fatal(nodes, e)
			}
			if nodes <= impl.MaxNodes {
				checkRight(t, e)
				if impl.Nodes(e) != nodes {
					t.Errorf("Nodes of %d: %d", nodes, impl.Nodes(e))
				}
			} else {
				checkWrong(t, e)
			}
		}
	}
	// The last one of too many isn't right either way, wherever it stands.
	checkRight(t, eTwo("*", eMany(30, eVar("v")), eMany(29, eVar("v"))))
	checkWrong(t, eTwo("*", eMany(30, eVar("v")), eMany(30, eVar("v"))))
	checkWrong(t, eTwo("*", eMany(1, eVar("v")), eMany(59, eVar("v"))))
	checkWrong(t, eTwo("*", eMany(59, eVar("v")), eMany(1, eVar("v"))))
	checkRight(t, eNeg(eMany(59, eVar("v"))))
	checkWrong(t, eNeg(eMany(60, eVar("v"))))
	checkWrong(t, ePow(eMany(60, eVar("v")), 2, 1))
}

// eDeep has a leaf just so deep, on the left or on the right, below formulas of many Kinds.
func eDeep(deep int, left bool) impl.Expr {
	e := eVar("v")
	for i := range deep {
		switch x := eVar("x"); {
		case i%4 == 3:
			e = ePow(e, 2, 1)
		case i%4 == 1:
			e = eNeg(e)
		case left:
			e = eTwo(signsOfPairs[i%3:i%3+1], e, x)
		default:
			e = eTwo(signsOfPairs[i%3:i%3+1], x, e)
		}
	}
	return e
}

func TestFormulasAtMaxDeep(t *testing.T) {
	for deep := range 16 {
		pows := eVar("v")
		for range deep {
			pows = ePow(pows, -1, 2)
		}
		for _, e := range []impl.Expr{eNegs(deep, eVar("v")), eNegs(deep, eNum("2")), pows, eDeep(deep, true), eDeep(deep, false)} {
			if deep <= impl.MaxDeep {
				checkRight(t, e)
			} else {
				checkWrong(t, e)
			}
		}
		if deep > 0 {
			beside := eTwo("+", eNegs(deep-1, eVar("v")), eMany(20, eVar("v")))
			behind := eTwo("+", eMany(20, eVar("v")), eNegs(deep-1, eVar("v")))
			for _, e := range []impl.Expr{beside, behind} {
				if impl.ExprOk(e) != (deep <= impl.MaxDeep) {
					t.Errorf("%d deep beside others: %v", deep, impl.ExprOk(e))
				}
			}
		}
	}
	checkWrong(t, eNegs(1000, eVar("v")))
	checkWrong(t, eNegs(200000, eVar("v")))
}

// Lists of Kids that hold themselves, and ones that stand in many places, have no end, or one that is far off.
func TestFormulasThatStandInThemselves(t *testing.T) {
	for kind, kids := range []int{0, 0, 2, 2, 2, 2, 1, 1} {
		list := make([]impl.Expr, kids)
		e := impl.Expr{Kind: kind, Kids: list}
		if kind == impl.EPow {
			e.P, e.Q = 1, 2
		}
		for i := range list {
			list[i] = e
		}
		checkWrong(t, e)
		if kids == 2 {
			list[0] = eVar("v")
			checkWrong(t, e)
			list[0], list[1] = e, eVar("v")
			checkWrong(t, e)
		}
	}
	e := eVar("v")
	for deep := 1; deep < 60; deep++ {
		e = impl.Expr{Kind: impl.EMul, Kids: []impl.Expr{e, e}}
		if deep < 5 {
			checkRight(t, e)
		} else {
			checkWrong(t, e)
		}
	}
	ring := make([]impl.Expr, 2)
	ring[0], ring[1] = eNeg(eVar("v")), impl.Expr{Kind: impl.EAdd, Kids: ring}
	checkWrong(t, impl.Expr{Kind: impl.ESub, Kids: ring})
	checkWrong(t, impl.Expr{Kind: impl.EVar, Name: "v", Kids: ring})
}

func TestTextsThatAreFormulas(t *testing.T) {
	for _, c := range [][2]string{
		{"v", "v"}, {" v ", "v"}, {"\tv\t ", "v"}, {"7", "7"}, {"0", "0"}, {"007", "7"}, {"3/4", "3/4"}, {"6/4", "3/2"}, {"1.50", "3/2"}, {"1.5e-2", "3/200"}, {"2e3", "2000"}, {"0/7", "0"}, {"e", "e"}, {"e5", "e5"},
		{"(v)", "v"}, {"((v))", "v"}, {"( ( 7 ) )", "7"}, {"(((v+g)))", "[v + g]"},
		{"a+b", "[a + b]"}, {"a-b", "[a - b]"}, {"a*b", "[a * b]"}, {"a/b", "[a / b]"}, {"3/4/5", "[3/4 / 5]"}, {"3 / 4", "[3 / 4]"}, {"3/ 4", "[3 / 4]"}, {"3 /4", "[3 / 4]"}, {"1.5/2", "[3/2 / 2]"}, {"v/3/4", "[v / 3/4]"}, {"v/3 /4", "[[v / 3] / 4]"},
		{"a+b+c", "[[a + b] + c]"}, {"a-b-c", "[[a - b] - c]"}, {"a-b+c", "[[a - b] + c]"}, {"a+b-c", "[[a + b] - c]"}, {"a-(b-c)", "[a - [b - c]]"}, {"a+(b+c)", "[a + [b + c]]"}, {"(a+b)+c", "[[a + b] + c]"},
		{"a*b*c", "[[a * b] * c]"}, {"a/b/c", "[[a / b] / c]"}, {"a/b*c", "[[a / b] * c]"}, {"a*b/c", "[[a * b] / c]"}, {"a*(b/c)", "[a * [b / c]]"}, {"a/(b*c)", "[a / [b * c]]"},
		{"a+b*c", "[a + [b * c]]"}, {"a*b+c", "[[a * b] + c]"}, {"(a+b)*c", "[[a + b] * c]"}, {"a*(b+c)", "[a * [b + c]]"}, {"a-b/c-d", "[[a - [b / c]] - d]"}, {"a*b-c*d", "[[a * b] - [c * d]]"}, {"a+b*c^2-d", "[[a + [b * [c ^ 2:1]]] - d]"},
		{"-a", "[neg a]"}, {"- a", "[neg a]"}, {"--a", "[neg [neg a]]"}, {"- - a", "[neg [neg a]]"}, {"---a", "[neg [neg [neg a]]]"}, {"-7", "[neg 7]"}, {"-0", "[neg 0]"}, {"-3/4", "[neg 3/4]"}, {"-(-a)", "[neg [neg a]]"}, {"(-a)", "[neg a]"}, {"-(a)", "[neg a]"},
		{"-a+b", "[[neg a] + b]"}, {"-a-b", "[[neg a] - b]"}, {"-a*b", "[[neg a] * b]"}, {"-a/b", "[[neg a] / b]"}, {"a+-b", "[a + [neg b]]"}, {"a--b", "[a - [neg b]]"}, {"a - - b", "[a - [neg b]]"}, {"a---b", "[a - [neg [neg b]]]"}, {"a*-b", "[a * [neg b]]"}, {"a/-b", "[a / [neg b]]"}, {"a*--b", "[a * [neg [neg b]]]"}, {"a*-b*c", "[[a * [neg b]] * c]"}, {"a*-b+c", "[[a * [neg b]] + c]"}, {"-(a+b)", "[neg [a + b]]"}, {"-(a*b)", "[neg [a * b]]"}, {"-(a*b)*c", "[[neg [a * b]] * c]"},
		{"a^2", "[a ^ 2:1]"}, {"a ^ 2", "[a ^ 2:1]"}, {"a^-2", "[a ^ -2:1]"}, {"a ^ - 2", "[a ^ -2:1]"}, {"a^0", "[a ^ 0:1]"}, {"a^-0", "[a ^ 0:1]"}, {"a^0/5", "[a ^ 0:1]"}, {"a^1", "[a ^ 1:1]"}, {"a^12", "[a ^ 12:1]"}, {"a^-12", "[a ^ -12:1]"}, {"a^1/12", "[a ^ 1:12]"}, {"a^-11/12", "[a ^ -11:12]"}, {"a^12/11", "[a ^ 12:11]"}, {"a^4/2", "[a ^ 2:1]"}, {"a^-4/2", "[a ^ -2:1]"}, {"a^24/2", "[a ^ 12:1]"}, {"a^14/16", "[a ^ 7:8]"}, {"a^0.3", "[a ^ 3:10]"}, {"a^0.5", "[a ^ 1:2]"}, {"a^-0.5", "[a ^ -1:2]"}, {"a^0.25e1", "[a ^ 5:2]"}, {"a^1.2e1", "[a ^ 12:1]"}, {"a^002", "[a ^ 2:1]"}, {"a^1000000000000000000000/2000000000000000000000", "[a ^ 1:2]"},
		{"a^2/3", "[a ^ 2:3]"}, {"a^2 / 3", "[[a ^ 2:1] / 3]"}, {"a^2/ 3", "[[a ^ 2:1] / 3]"}, {"a^2/3/4", "[[a ^ 2:3] / 4]"}, {"a^-2/3/4", "[[a ^ -2:3] / 4]"}, {"2^3", "[2 ^ 3:1]"}, {"3/4^2", "[3/4 ^ 2:1]"}, {"3 / 4^2", "[3 / [4 ^ 2:1]]"},
		{"-a^2", "[neg [a ^ 2:1]]"}, {"--a^2", "[neg [neg [a ^ 2:1]]]"}, {"(-a)^2", "[[neg a] ^ 2:1]"}, {"-(a^2)", "[neg [a ^ 2:1]]"}, {"-(a)^2", "[neg [a ^ 2:1]]"}, {"-(-a)^2", "[neg [[neg a] ^ 2:1]]"}, {"-a^-2", "[neg [a ^ -2:1]]"}, {"-3^2", "[neg [3 ^ 2:1]]"}, {"b-a^2", "[b - [a ^ 2:1]]"}, {"b*-a^2", "[b * [neg [a ^ 2:1]]]"}, {"-a^2*b", "[[neg [a ^ 2:1]] * b]"}, {"-a^2+b", "[[neg [a ^ 2:1]] + b]"},
		{"(a^2)^3", "[[a ^ 2:1] ^ 3:1]"}, {"((a^2)^3)^-1", "[[[a ^ 2:1] ^ 3:1] ^ -1:1]"}, {"(a)^2", "[a ^ 2:1]"}, {"(a+b)^2", "[[a + b] ^ 2:1]"}, {"(a*b)^1/2", "[[a * b] ^ 1:2]"}, {"a*b^2", "[a * [b ^ 2:1]]"}, {"a^2*b", "[[a ^ 2:1] * b]"}, {"a^2-3", "[[a ^ 2:1] - 3]"}, {"a^2+-3", "[[a ^ 2:1] + [neg 3]]"}, {"a^-2-3", "[[a ^ -2:1] - 3]"},
	} {
		checkFormula(t, c[0], c[1])
	}
}

func TestPlacesOfWhatDoesNotFit(t *testing.T) {
	for _, c := range []struct {
		s  string
		at int
	}{
		{"", 1}, {" ", 2}, {"\t", 2}, {"   ", 4}, {" \t \t", 5},
		{"?", 1}, {"v ? g", 3}, {"v+?", 3}, {"+ ?", 3}, {"= v ?", 5}, {"abcdefghijklm", 1}, {"v+1/0", 3}, {")1/0", 2}, {"v\n", 2}, {"é", 1}, {"v + 1e999", 5}, {strings.Repeat(" ", impl.MaxText+1), 1}, {"v" + strings.Repeat(" ", impl.MaxText), 1},
		{"+v", 1}, {"*v", 1}, {"/v", 1}, {"^v", 1}, {")v", 1}, {"=v", 1}, {"(v", 3}, {" +v", 2}, {"\t\t=", 3}, {"+", 1}, {"*", 1}, {"/", 1}, {"^", 1}, {")", 1}, {"=", 1}, {"-", 2}, {"(", 2}, {"- ", 3}, {"(  ", 4},
		{"v+", 3}, {"v-", 3}, {"v*", 3}, {"v/", 3}, {"v^", 3}, {"v(", 2}, {"v)", 2}, {"v=", 2}, {"7+", 3}, {"7/", 3}, {"7^", 3}, {"7(", 2}, {"7)", 2}, {"7=", 2}, {"(v)+", 5}, {"(v)(", 4}, {"(v))", 4}, {"v^2+", 5}, {"v^2^", 4}, {"v^2(", 4}, {"v^2)", 4}, {"v^2=", 4}, {"v^-2^", 5},
		{"v +", 4}, {"v + ", 5}, {"v +   ", 7}, {"v +\t", 5}, {"v ^ ", 5}, {"v ^ - ", 7}, {"v^-", 4}, {"(v ", 4}, {"(v + ", 6}, {"((v)", 5}, {"((v) ", 6}, {"--", 3}, {"v - -", 6}, {"v * - ", 7}, {"v+(", 4}, {"-(", 3}, {"(v)^", 5}, {"(((", 4},
		{"v g", 3}, {"v  g", 4}, {"v 2", 3}, {"2 v", 3}, {"2v", 2}, {"2e", 2}, {"2 3", 3}, {"1e5x", 4}, {"v (g)", 3}, {"(v)g", 4}, {"(v) g", 5}, {"(v)2", 4}, {"v^2 g", 5}, {"v^2g", 4}, {"v^2 3", 5}, {"-v g", 4}, {"v g +", 3}, {"v g )", 3}, {"1e1234", 6}, {"3/4e5", 4},
		{"()", 2}, {"( )", 3}, {"v+()", 4}, {"()v", 2}, {"(())", 3}, {"-()", 3}, {"()^2", 2}, {"(+)", 2}, {"(-)", 3}, {"(v+)", 4}, {"(v*)", 4}, {"(v^)", 4}, {"(v^-)", 5}, {"(v g)", 4}, {"(v))+g", 4}, {"v)+(g", 2}, {"(v+g))", 6}, {"((v+g)", 7}, {"(v=g)", 3},
		{"v = g", 3}, {"v == g", 3}, {"= v", 1}, {"v + = g", 5}, {"-=", 2}, {"v^=", 3}, {"v^-=", 4}, {"(=", 2}, {"v*g = 2", 5},
		{"v+*g", 3}, {"v++g", 3}, {"v*+g", 3}, {"v**g", 3}, {"v//g", 3}, {"v*/g", 3}, {"v-+g", 3}, {"v-*g", 3}, {"+-v", 1}, {"-+v", 2}, {"-*v", 2}, {"-^2", 2}, {"--^2", 3}, {"v+^2", 3}, {"(^2)", 2},
		{"v^x", 3}, {"v^-x", 4}, {"v^(2)", 3}, {"v^-(2)", 4}, {"v^--2", 4}, {"v^+2", 3}, {"v^-+2", 4}, {"v^*", 3}, {"v^^2", 3}, {"v^-^2", 4}, {"v^)", 3}, {"v^v^2", 3}, {"v^2^3", 4}, {"v^2^-3", 4}, {"v^-2^3", 5}, {"(v)^2^3", 6}, {"(v^2)^3^4", 8}, {"v^2 ^ 3", 5}, {"v*g^2^3", 6}, {"3^2^1", 4},
		{"v^13", 3}, {"v^-13", 4}, {"v^1/13", 3}, {"v^-1/13", 4}, {"v^13/12", 3}, {"v^12/13", 3}, {"v^14/26", 3}, {"v^26/28", 3}, {"v^24/26", 3}, {"v^26/24", 3}, {"v^100", 3}, {"v^0.05", 3}, {"v^1.5e1", 3}, {"v^1e2", 3}, {"v^4294967298", 3}, {"v^18446744073709551618", 3}, {"v^1/18446744073709551617", 3}, {"v^1e300", 3}, {"v^1e-300", 3}, {"v^36893488147419103233/2", 3}, {"v^13 + ", 3}, {"(v^13", 4}, {"v^13 ?", 6}, {" v ^ - 13 )", 8},
	} {
		checkMisfit(t, c.s, c.at)
	}
}

func TestNumbersThatAFormulaDoesNotWant(t *testing.T) {
	// 199 bytes above and 200 below the stroke, and one more above.
	most, beyond := "0."+strings.Repeat("1", 199), "1."+strings.Repeat("1", 199)
	for s, bytes := range map[string]int{most: 400, beyond: 401} {
		if value, _ := readByWords(s); len(value.RatString()) != bytes {
			t.Fatal(len(value.RatString()))
		}
	}
	checkFormula(t, most, strings.Repeat("1", 199)+"/1"+strings.Repeat("0", 199))
	for _, s := range []string{"-" + most, most + "^2", "v*" + most + "-g", "(" + most + ")"} {
		checkParse(t, s)
		if _, place := impl.ParseExpr(s); place != 0 {
			t.Errorf("%q: %d", s, place)
		}
	}
	for s, at := range map[string]int{beyond: 1, "-" + beyond: 2, "v + " + beyond: 5, "(" + beyond + ")": 2, "v " + beyond: 3, beyond + " )": 1, beyond + " + ": 1, "v^" + beyond: 3, "v^" + most: 3, "v^-" + beyond: 4, "v*(" + beyond + "?": 205, "1e-300*1.1e-300*" + beyond: 17} {
		checkMisfit(t, s, at)
	}
	checkFormula(t, "1e385", "1"+strings.Repeat("0", 385))
	checkFormula(t, "1e-385", "1/1"+strings.Repeat("0", 385))
	checkMisfit(t, "1.2345678901234e-385", 1)
	checkFormula(t, strings.Repeat("0", 399)+"1", "1")
}

// sentences are all texts of the document's lines with these words in them, up to so many words; a blank between two.
func sentences(most int) []string {
	parts, powers, signs, products, sums := make([][]string, most+1), make([][]string, most+1), make([][]string, most+1), make([][]string, most+1), make([][]string, most+1)
	parts[1] = []string{"v", "13"}
	pairs := func(list [][]string, next [][]string, n int, between ...string) {
		list[n] = slices.Clone(next[n])
		for k := 1; k < n-1; k++ {
			for _, left := range list[k] {
				for _, right := range next[n-1-k] {
					for _, sign := range between {
						list[n] = append(list[n], left+" "+sign+" "+right)
					}
				}
			}
		}
	}
	var all []string
	for n := 1; n <= most; n++ {
		if n > 2 {
			for _, s := range sums[n-2] {
				parts[n] = append(parts[n], "( "+s+" )")
			}
		}
		powers[n] = slices.Clone(parts[n])
		for _, s := range parts[max(n-2, 0)] {
			powers[n] = append(powers[n], s+" ^ 2")
		}
		for _, s := range parts[max(n-3, 0)] {
			powers[n] = append(powers[n], s+" ^ - 2")
		}
		signs[n] = slices.Clone(powers[n])
		for _, s := range signs[n-1] {
			signs[n] = append(signs[n], "- "+s)
		}
		pairs(products, signs, n, "*")
		pairs(sums, products, n, "+", "-")
		all = append(all, sums[n]...)
	}
	return all
}

// The place of what doesn't fit, by its words in the document: which texts begin a formula is asked of all the formulas of few words.
func TestMisfitsByAllFormulasOfFewWords(t *testing.T) {
	const long = 4
	begins, whole := map[string]bool{"": true}, map[string]bool{}
	for _, s := range sentences(2*long + 1) {
		words := strings.Fields(s)
		for n := range min(len(words), long) + 1 {
			begins[strings.Join(words[:n], " ")] = true
		}
		if len(words) <= long {
			whole[s] = true
		}
	}
	var checkAll func(words []string)
	checkAll = func(words []string) {
		text := strings.Join(words, " ")
		want := 0
		for n := 1; n <= len(words) && want == 0; n++ {
			if head := strings.Join(words[:n], " "); !begins[head] {
				want = len(head) - len(words[n-1]) + 1
			}
		}
		if want == 0 && !whole[text] {
			want = len(text) + 1
		}
		got, place := impl.ParseExpr(text)
		if place != want || (place == 0) != okByWords(got) {
			t.Errorf("ParseExpr of %q: %d, wanted %d", text, place, want)
		}
		checkParse(t, text)
		if len(words) == long || t.Failed() {
			return
		}
		for _, next := range []string{"v", "13", "2", "+", "-", "*", "^", "(", ")", "="} {
			if next != "2" || len(words) > 0 && (words[len(words)-1] == "^" || strings.HasSuffix(text, "^ -")) {
				checkAll(append(slices.Clone(words), next))
			}
		}
	}
	checkAll(nil)
	if len(whole) < 50 {
		t.Error("too few formulas:", len(whole))
	}
}

// All texts of few words, with and without blanks between them.
func TestAllTextsOfFewWords(t *testing.T) {
	words := []string{"v", "2", "13", "1/2", "+", "-", "*", "/", "^", "(", ")", "="}
	var checkAll func(text string, left int)
	checkAll = func(text string, left int) {
		checkParse(t, text)
		checkParse(t, text+" ")
		for i := 0; left > 0 && i < len(words) && !t.Failed(); i++ {
			checkAll(text+words[i], left-1)
			if left < 3 {
				checkAll(text+" "+words[i], left-1)
			}
		}
	}
	checkAll("", 4)
}

func TestChanceTextsOfFormulas(t *testing.T) {
	r := rand.New(rand.NewSource(61))
	for _, s := range sampleTexts() {
		checkParse(t, s)
	}
	words := []string{"v", "g", "2", "1/2", "13", "+", "-", "*", "/", "^2", "^-1/2", "^", "(", "(", ")", ")", "=", " "}
	for range 20000 {
		var text strings.Builder
		for range r.Intn(14) {
			text.WriteString(words[r.Intn(len(words))])
		}
		checkParse(t, text.String())
		checkParse(t, mixedText(r, "v2+-*/^() ", 12))
		if t.Failed() {
			return
		}
	}
	for range 3000 {
		checkParse(t, mixedText(r, "vg12/.e+-*^()= \t?", 20))
		checkParse(t, mixedText(r, "(v-^2)", 300))
		checkParse(t, anyText(r))
	}
}

// spoiled is a text with one byte put in, taken out or changed.
func spoiled(r *rand.Rand, s string) string {
	at, signs := r.Intn(len(s)+1), "vg12+-*/^()= ?"
	sign := signs[r.Intn(len(signs)):][:1]
	switch r.Intn(3) {
	case 0:
		return s[:at] + sign + s[at:]
	case 1:
		return s[:at] + s[min(at+1, len(s)):]
	}
	return s[:at] + sign + s[min(at+1, len(s)):]
}

// chanceExpr has at most so many formulas in all, and none deeper than that; it is right.
func chanceExpr(r *rand.Rand, most int, deep int) impl.Expr {
	if most == 1 || deep == 0 || r.Intn(12) == 0 {
		numbers := []string{"0", "1", "2", "3/4", "1/3", "22/7", "12345678901234567890", "1e-9"}
		names := []string{"v", "v", "g", "h", "x", "rho_1", "V", "abcdefghijkl"}
		if r.Intn(3) == 0 {
			return eNum(numbers[r.Intn(len(numbers))])
		}
		return eVar(names[r.Intn(len(names))])
	}
	for {
		switch kind := 2 + r.Intn(6); {
		case kind == impl.ENeg:
			return eNeg(chanceExpr(r, most-1, deep-1))
		case kind == impl.EPow:
			if p, q := r.Intn(25)-12, 1+r.Intn(12); powerByWords(p, q) {
				return ePow(chanceExpr(r, most-1, deep-1), p, q)
			}
		case most > 2:
			left := 1 + r.Intn(most-2)
			return eTwo(signsOfPairs[kind-2:kind-1], chanceExpr(r, left, deep-1), chanceExpr(r, most-1-left, deep-1))
		}
	}
}

func TestFormulasComeBackFromTheirTexts(t *testing.T) {
	r := rand.New(rand.NewSource(62))
	sizes := []int{1, 2, 3, 4, 5, 7, 9, 15, 30, impl.MaxNodes}
	for round := range 6000 {
		e := chanceExpr(r, sizes[round%len(sizes)], 1+r.Intn(impl.MaxDeep))
		checkRight(t, e)
		text := impl.ShowExpr(e)
		checkParse(t, strings.ReplaceAll(text, " ", ""))
		checkParse(t, "  "+strings.ReplaceAll(text, " ", " \t ")+" \t")
		checkParse(t, "("+text+")")
		for range 3 {
			checkParse(t, spoiled(r, text))
		}
		for n := range len(text) {
			if n%7 == round%7 {
				checkParse(t, text[:n])
			}
		}
		if t.Failed() {
			return
		}
	}
}

// shownByPlace is how each Kind (as eachKind has them) is shown in each place; the kid of a power stands to the -1 divided by 2.
var shownByPlace = []struct {
	kind, place int
	texts       []string
}{
	{impl.EAdd, 0, []string{"3/4 + z", "v + z", "a + b + z", "a - b + z", "a * b + z", "a / b + z", "-a + z", "a^2 + z"}},
	{impl.EAdd, 1, []string{"z + 3/4", "z + v", "z + (a + b)", "z + (a - b)", "z + a * b", "z + a / b", "z + -a", "z + a^2"}},
	{impl.ESub, 0, []string{"3/4 - z", "v - z", "a + b - z", "a - b - z", "a * b - z", "a / b - z", "-a - z", "a^2 - z"}},
	{impl.ESub, 1, []string{"z - 3/4", "z - v", "z - (a + b)", "z - (a - b)", "z - a * b", "z - a / b", "z - -a", "z - a^2"}},
	{impl.EMul, 0, []string{"3/4 * z", "v * z", "(a + b) * z", "(a - b) * z", "a * b * z", "a / b * z", "-a * z", "a^2 * z"}},
	{impl.EMul, 1, []string{"z * 3/4", "z * v", "z * (a + b)", "z * (a - b)", "z * (a * b)", "z * (a / b)", "z * -a", "z * a^2"}},
	{impl.EDiv, 0, []string{"3/4 / z", "v / z", "(a + b) / z", "(a - b) / z", "a * b / z", "a / b / z", "-a / z", "a^2 / z"}},
	{impl.EDiv, 1, []string{"z / 3/4", "z / v", "z / (a + b)", "z / (a - b)", "z / (a * b)", "z / (a / b)", "z / -a", "z / a^2"}},
	{impl.ENeg, 0, []string{"-3/4", "-v", "-(a + b)", "-(a - b)", "-(a * b)", "-(a / b)", "--a", "-a^2"}},
	{impl.EPow, 0, []string{"3/4^-1/2", "v^-1/2", "(a + b)^-1/2", "(a - b)^-1/2", "(a * b)^-1/2", "(a / b)^-1/2", "(-a)^-1/2", "(a^2)^-1/2"}},
}

func TestEachKindAsEachKidOfEachKind(t *testing.T) {
	for _, c := range shownByPlace {
		for kind, kid := range eachKind() {
			e := impl.Expr{Kind: c.kind, Kids: []impl.Expr{kid}}
			if c.kind == impl.EPow {
				e.P, e.Q = -1, 2
			}
			if c.kind < impl.ENeg {
				e.Kids = slices.Insert([]impl.Expr{eVar("z")}, c.place, kid)
			}
			want := c.texts[kind]
			if got := impl.ShowExpr(e); got != want {
				t.Errorf("Kind %d as kid %d of Kind %d: %q, wanted %q", kind, c.place, c.kind, got, want)
			}
			checkRight(t, e)
			// Brackets stand just where the text would be read as another formula without them.
			bare := strings.NewReplacer("(", "", ")", "").Replace(want)
			other, place := impl.ParseExpr(bare)
			if same := place == 0 && sameExpr(other, e); same != (bare == want) {
				t.Errorf("%q without its brackets is the same formula: %v", want, same)
			}
			checkRight(t, eNeg(e))
			checkRight(t, ePow(e, 2, 3))
			for _, sign := range []string{"+", "-", "*", "/"} {
				checkRight(t, eTwo(sign, e, e))
			}
		}
	}
}

func TestTextsOfFormulas(t *testing.T) {
	v, g := eVar("v"), eVar("g")
	for _, c := range []struct {
		e    impl.Expr
		want string
	}{
		{eNum("0"), "0"}, {eNum("2/6"), "1/3"}, {eNum("1.5"), "3/2"}, {eVar("rho_1"), "rho_1"}, {eNeg(eNum("0")), "-0"}, {eNegs(3, v), "---v"}, {eTwo("-", v, eNegs(2, g)), "v - --g"},
		{ePow(v, 0, 1), "v^0"}, {ePow(v, 1, 1), "v^1"}, {ePow(v, -1, 1), "v^-1"}, {ePow(v, 12, 1), "v^12"}, {ePow(v, -12, 11), "v^-12/11"}, {ePow(v, 1, 12), "v^1/12"}, {ePow(eNum("3/4"), 2, 1), "3/4^2"}, {ePow(eNum("2"), -1, 2), "2^-1/2"},
		{eNeg(ePow(v, 2, 1)), "-v^2"}, {ePow(eNeg(v), 2, 1), "(-v)^2"}, {eNeg(ePow(eNeg(v), 2, 1)), "-(-v)^2"}, {ePow(ePow(ePow(v, 2, 1), 3, 1), -1, 1), "((v^2)^3)^-1"}, {eNeg(eTwo("*", eNeg(v), g)), "-(-v * g)"},
		{eTwo("/", eNum("3"), eNum("4")), "3 / 4"}, {eTwo("/", ePow(v, 2, 1), eNum("3")), "v^2 / 3"}, {ePow(v, 2, 3), "v^2/3"}, {eTwo("/", eNum("3/4"), eNum("5/6")), "3/4 / 5/6"}, {eTwo("*", ePow(v, 2, 3), eNum("5")), "v^2/3 * 5"},
		{eTwo("+", eTwo("*", v, g), eTwo("/", v, g)), "v * g + v / g"}, {eTwo("*", eTwo("+", v, g), eTwo("-", v, g)), "(v + g) * (v - g)"}, {eTwo("-", eTwo("-", v, g), eTwo("-", v, g)), "v - g - (v - g)"}, {eTwo("/", eTwo("/", v, g), eTwo("/", v, g)), "v / g / (v / g)"},
		{eTwo("*", v, eNeg(eTwo("*", v, g))), "v * -(v * g)"}, {eTwo("*", eNeg(eTwo("+", v, g)), g), "-(v + g) * g"},
	} {
		if got := impl.ShowExpr(c.e); got != c.want {
			t.Errorf("ShowExpr of %s: %q, wanted %q", toldExpr(c.e), got, c.want)
		}
		checkRight(t, c.e)
	}
}

// textOfNodes is a text whose formula has so many formulas in all, flat enough; its brackets count for none.
func textOfNodes(nodes int) string {
	return "(" + showByWords(eMany(nodes, eVar("v"))) + ")"
}

func TestFormulasThatAreReadTooLarge(t *testing.T) {
	for nodes := 50; nodes < 75; nodes++ {
		text := textOfNodes(nodes)
		got, place := impl.ParseExpr(text)
		if fits := nodes <= impl.MaxNodes; (place == 0) != fits || !fits && (place != 1 || !isZeroExpr(got)) || impl.Nodes(got) != nodes && fits {
			t.Errorf("%d formulas: %d", nodes, place)
		}
		checkParse(t, text)
		checkMisfit(t, text+" )", len(text)+2)
		checkMisfit(t, text+" v", len(text)+2)
		checkMisfit(t, text+" ^ 13", len(text)+4)
		checkMisfit(t, text+" + ", len(text)+4)
		checkMisfit(t, "("+text+" ", len(text)+3)
		checkMisfit(t, text+" = v", len(text)+2)
		checkMisfit(t, text+" ?", len(text)+2)
	}
	for deep := 8; deep < 20; deep++ {
		chain, minus := "v"+strings.Repeat(" + v", deep), strings.Repeat("-", deep)+"v"
		powers := strings.Repeat("(", deep) + "v" + strings.Repeat("^2)", deep)
		for _, text := range []string{chain, minus, powers, strings.ReplaceAll(chain, "+", "*"), strings.ReplaceAll(chain, "+", "/"), strings.Repeat("v-(", deep) + "v" + strings.Repeat(")", deep), strings.Repeat("-(", deep) + "v" + strings.Repeat(")", deep), " " + minus, minus + "  "} {
			_, place := impl.ParseExpr(text)
			if want := min(1, max(0, deep-12)); place != want {
				t.Errorf("%q: %d, wanted %d", text, place, want)
			}
			checkParse(t, text)
			checkMisfit(t, text+")", len(text)+1)
			checkMisfit(t, text+"*", len(text)+2)
			checkMisfit(t, "("+text, len(text)+2)
		}
	}
	// 200 words each.
	checkMisfit(t, strings.Repeat("-", 199)+"v", 1)
	checkMisfit(t, strings.Repeat("v+", 99)+"-v", 1)
	checkMisfit(t, strings.Repeat("v+", 100), 201)
	checkMisfit(t, strings.Repeat("(", 200), 201)
	checkMisfit(t, strings.Repeat("-", 200), 201)
	checkMisfit(t, strings.Repeat("-", 200)+" ", 202)
	checkMisfit(t, strings.Repeat("-", 201), 201)
	checkMisfit(t, strings.Repeat("v+", 101), 201)
	checkMisfit(t, strings.Repeat("v ", 201), 401)
	checkMisfit(t, strings.Repeat("(v+", 66)+"v=", 200)
	checkFormula(t, strings.Repeat("(", 99)+"v"+strings.Repeat(")", 99), "v")
	checkFormula(t, strings.Repeat("(", 99)+"-v"+strings.Repeat(")", 99), "[neg v]")
	checkMisfit(t, strings.Repeat("(", 99)+"v"+strings.Repeat(")", 98), 199)
	checkMisfit(t, strings.Repeat("(", 99)+"v"+strings.Repeat(")", 100), 200)
	checkMisfit(t, strings.Repeat("(", 100)+"v"+strings.Repeat(")", 100), 201)
}

func TestTextsOfFormulasAtTheirLimits(t *testing.T) {
	blanks := strings.Repeat(" ", impl.MaxText)
	checkFormula(t, "v"+blanks[1:], "v")
	checkFormula(t, blanks[1:]+"v", "v")
	checkMisfit(t, blanks, impl.MaxText+1)
	checkMisfit(t, "v+"+blanks[2:], impl.MaxText+1)
	checkMisfit(t, blanks[1:]+"+", impl.MaxText)
	checkMisfit(t, blanks+"v", 1)
	checkMisfit(t, "v+"+blanks[1:], 1)
	// Formulas whose texts are longer than a text that is read: they are told all the same.
	for digits := 60; digits < 70; digits++ {
		e := eMany(impl.MaxNodes-1, eNum("1e"+strconv.Itoa(digits*2)))
		checkRight(t, e)
		text := impl.ShowExpr(e)
		if _, place := impl.ParseExpr(text); (place == 0) != (len(text) <= impl.MaxText) || place > 1 {
			t.Errorf("a text of %d bytes: %d", len(text), place)
		}
	}
	for _, c := range []struct{ bytes, place int }{{impl.MaxText - 1, 0}, {impl.MaxText, 0}, {impl.MaxText + 1, 1}} {
		e := formulaOfBytes(t, c.bytes)
		checkRight(t, e)
		if _, place := impl.ParseExpr(impl.ShowExpr(e)); place != c.place {
			t.Errorf("a formula's text of %d bytes: %d", c.bytes, place)
		}
	}
}

// formulaOfBytes is a sum of numbers whose text has so many bytes, some 4000 of them.
func formulaOfBytes(t *testing.T, bytes int) impl.Expr {
	t.Helper()
	e := eNum("1e379")
	for range 9 {
		e = eTwo("+", e, eNum("1e379"))
	}
	rest := bytes - len(showByWords(e)) - len(" - ")
	e = eTwo("-", e, eNum("1e"+strconv.Itoa(rest-1)))
	if len(showByWords(e)) != bytes {
		t.Fatal("no formula of so many bytes:", bytes, len(showByWords(e)))
	}
	return e
}

// tower is a power of powers, made of many words; below 0 of one more.
func tower(p int) impl.Expr {
	e := ePow(eVar("v"), p, 2)
	for range 9 {
		e = ePow(e, -1, 2)
	}
	return e
}

func TestFormulasAtMaxWords(t *testing.T) {
	down, up := tower(-1), tower(1)
	for _, c := range []struct {
		e     impl.Expr
		words int
	}{
		{eTwo("+", eTwo("*", down, down), eTwo("*", down, down)), 199},
		{eTwo("+", eTwo("+", down, down), eTwo("+", down, up)), 200},
		{eTwo("+", eTwo("+", down, down), eTwo("+", down, down)), 201},
	} {
		text := impl.ShowExpr(c.e)
		words := strings.Fields(strings.NewReplacer("(", " ( ", ")", " ) ", "^", " ^ ", "-", " - ").Replace(text))
		if len(words) != c.words {
			t.Fatal(len(words), text)
		}
		checkRight(t, c.e)
		if _, place := impl.ParseExpr(text); (place == 0) != (c.words <= impl.MaxWords) || place > 0 && place != len(text) {
			t.Errorf("%d words: %d of %d", c.words, place, len(text))
		}
	}
}

func TestNamesOfFormulas(t *testing.T) {
	for _, c := range []struct {
		text string
		want []string
	}{
		{"7", nil}, {"-(2+3)^2", nil}, {"v", []string{"v"}}, {"v*v-v/v", []string{"v"}}, {"v^2 - g*v/t", []string{"g", "t", "v"}}, {"c+b+a", []string{"a", "b", "c"}}, {"a+b+c", []string{"a", "b", "c"}}, {"b*(a+c)^2-a", []string{"a", "b", "c"}},
		{"a+B+a1+aB+a_+A+ab+aa", []string{"A", "B", "a", "a1", "aB", "a_", "aa", "ab"}}, {"x10+x2+x1+x", []string{"x", "x1", "x10", "x2"}}, {"-(-z)^2 + y*-y", []string{"y", "z"}}, {"abcdefghijkl/abcdefghijk", []string{"abcdefghijk", "abcdefghijkl"}}, {"z*2*y*3*x", []string{"x", "y", "z"}},
	} {
		e, place := impl.ParseExpr(c.text)
		if got := impl.NamesOf(e); place != 0 || !slices.Equal(got, c.want) {
			t.Errorf("NamesOf of %q: %q, wanted %q", c.text, got, c.want)
		}
		checkRight(t, e)
	}
	var many impl.Expr
	for i := range 30 {
		next := eVar("n" + strconv.Itoa(97*i%30))
		switch {
		case i == 0:
			many = next
		case i%6 == 0:
			many = eTwo("+", next, many)
		case i%6 == 3:
			many = eTwo("-", many, next)
		default:
			left := many
			many = eTwo("*", next, eVar("n0"))
			many = eTwo("/", many, left)
		}
		if !okByWords(many) {
			break
		}
		checkRight(t, many)
	}
}

func TestNodesOfFormulas(t *testing.T) {
	for text, want := range map[string]int{"v": 1, "7": 1, "((v))": 1, "a+b": 3, "a-b": 3, "a*b": 3, "a/b": 3, "-a": 2, "a^2": 2, "a^-1/2": 2, "-a^2": 3, "(-a)^2": 3, "a+b+c": 5, "3/4": 1, "3 / 4": 3, "v^2 - g*v/t": 8, "--(a+-b)^2": 7} {
		e, place := impl.ParseExpr(text)
		if got := impl.Nodes(e); place != 0 || got != want {
			t.Errorf("Nodes of %q: %d, wanted %d", text, got, want)
		}
	}
}

// checkPut holds Put against the second reckoning.
func checkPut(t *testing.T, e impl.Expr, name string, with impl.Expr) {
	t.Helper()
	got, ok := impl.Put(e, name, with)
	if !okByWords(e) || !okByWords(with) || !okByWords(putByWords(e, name, with)) {
		if ok || !isZeroExpr(got) {
			t.Errorf("Put is to be refused, but told: %v", got)
		}
		return
	}
	if want := putByWords(e, name, with); !ok || !sameExpr(got, want) {
		t.Errorf("Put of %s as %q in %s: %v %v, wanted %s", toldExpr(with), name, toldExpr(e), got, ok, toldExpr(want))
	}
}

func needExpr(t *testing.T, s string) impl.Expr {
	t.Helper()
	e, place := parseByWords(s)
	if place != 0 {
		t.Fatalf("%q is no formula: %d", s, place)
	}
	return e
}

func TestFormulasPutIntoFormulas(t *testing.T) {
	for _, c := range [][4]string{
		{"v", "v", "g", "g"}, {"v", "v", "a+1", "a + 1"}, {"v", "g", "a+1", "v"}, {"7", "v", "a", "7"}, {"v", "", "a", "v"}, {"v", "V", "a", "v"}, {"v", "v ", "a", "v"}, {"vv", "v", "a", "vv"}, {"v", "vv", "a", "v"}, {"v", "7", "a", "v"}, {"7", "7", "a", "7"}, {"v", "\xff", "a", "v"}, {"abcdefghijkl", "abcdefghijklm", "a", "abcdefghijkl"},
		{"v^2 - g*v/t", "v", "a + 1", "(a + 1)^2 - g * (a + 1) / t"}, {"v^2 - g*v/t", "g", "a + 1", "v^2 - (a + 1) * v / t"}, {"v^2 - g*v/t", "t", "a * b", "v^2 - g * v / (a * b)"}, {"v^2 - g*v/t", "t", "-v", "v^2 - g * v / -v"}, {"v^2 - g*v/t", "x", "a", "v^2 - g * v / t"},
		{"v", "v", "v", "v"}, {"v + g", "v", "v + 1", "v + 1 + g"}, {"v * v", "v", "v * v", "v * v * (v * v)"}, {"v + g", "v", "g", "g + g"}, {"v - g", "v", "g - v", "g - v - g"}, {"-v^2", "v", "-v", "-(-v)^2"}, {"v^2", "v", "v^1/2", "(v^1/2)^2"}, {"v^2", "v", "3", "3^2"}, {"-(v + 2)", "v", "-(v+2)", "-(-(v + 2) + 2)"}, {"-v", "v", "-2", "--2"},
	} {
		e, with := needExpr(t, c[0]), needExpr(t, c[2])
		got, ok := impl.Put(e, c[1], with)
		if !ok || showByWords(got) != c[3] {
			t.Errorf("%q as %q in %q: %v %v, wanted %q", c[2], c[1], c[0], got, ok, c[3])
		}
		checkPut(t, e, c[1], with)
	}
}

func TestFormulasPutAtTheirLimits(t *testing.T) {
	v := eVar("v")
	for nodes := 50; nodes <= 60; nodes++ {
		with := eMany(nodes, eVar("x"))
		for _, c := range []struct {
			e    impl.Expr
			most int
		}{
			{v, 60}, {eNeg(v), 59}, {eTwo("+", v, eVar("x")), 58}, {eTwo("+", eVar("x"), v), 58}, {eTwo("*", v, eTwo("-", eNum("1"), eVar("y"))), 56}, {eTwo("*", v, v), 29}, {eVar("y"), 60}, {eMany(60, eVar("y")), 60}, {eMany(60, v), 1},
		} {
			got, ok := impl.Put(c.e, "v", with)
			if ok != (nodes <= c.most) || !ok && !isZeroExpr(got) {
				t.Errorf("%d formulas put into %s: %v", nodes, toldExpr(c.e), ok)
			}
			checkPut(t, c.e, "v", with)
		}
	}
	for _, c := range []struct {
		e     impl.Expr
		nodes int
		ok    bool
	}{{eTwo("*", v, v), 29, true}, {eTwo("*", v, v), 30, false}, {eNeg(eTwo("*", v, v)), 29, true}, {eTwo("+", eTwo("*", v, v), v), 19, true}, {eTwo("+", eTwo("*", v, v), v), 20, false}, {eMany(60, v), 1, true}, {eMany(60, v), 2, false}} {
		if _, ok := impl.Put(c.e, "v", eMany(c.nodes, v)); ok != c.ok {
			t.Errorf("%d formulas put into %s: %v", c.nodes, toldExpr(c.e), ok)
		}
		checkPut(t, c.e, "v", eMany(c.nodes, v))
	}
	for deep := range 13 {
		for below := range 13 {
			for _, e := range []impl.Expr{eNegs(deep, v), eTwo("+", eNegs(max(deep-1, 0), v), eVar("x"))} {
				checkPut(t, e, "v", eNegs(below, v))
				checkPut(t, e, "v", eNegs(below, eNum("2")))
				checkPut(t, e, "w", eNegs(below, v))
			}
			if _, ok := impl.Put(eNegs(deep, v), "v", eNegs(below, v)); ok != (deep+below <= impl.MaxDeep) {
				t.Errorf("%d deep, put %d deep: %v", below, deep, ok)
			}
		}
	}
}

func TestChanceFormulasPutIntoOthers(t *testing.T) {
	r := rand.New(rand.NewSource(63))
	names := []string{"v", "g", "rho_1", "none", "", "V", "x"}
	put := 0
	for range 8000 {
		e, with := chanceExpr(r, 1+r.Intn(impl.MaxNodes), r.Intn(8)), chanceExpr(r, 1+r.Intn(12), r.Intn(8))
		name := names[r.Intn(len(names))]
		checkPut(t, e, name, with)
		if got, ok := impl.Put(e, name, with); ok && !sameExpr(got, e) {
			put++
			checkRight(t, got)
		}
	}
	if put < 1000 {
		t.Error("too few formulas were put:", put)
	}
}

// spoiledExpr has one thing changed somewhere in it; mostly it isn't right any more.
func spoiledExpr(r *rand.Rand, e impl.Expr) impl.Expr {
	if len(e.Kids) > 0 && r.Intn(4) > 0 {
		e.Kids = slices.Clone(e.Kids)
		at := r.Intn(len(e.Kids))
		e.Kids[at] = spoiledExpr(r, e.Kids[at])
		return e
	}
	odd := []int{-13, -12, -1, 0, 1, 2, 3, 7, 8, 12, 13, math.MinInt, math.MaxInt}
	switch r.Intn(9) {
	case 0:
		e.Kind = odd[r.Intn(len(odd))]
	case 1:
		e.P = odd[r.Intn(len(odd))]
	case 2:
		e.Q = odd[r.Intn(len(odd))]
	case 3:
		e.Name = anyText(r)
	case 4:
		e.Num = wrongRats()[r.Intn(20)]
	case 5:
		e.Num = edgeRats()[r.Intn(40)]
	case 6:
		e.Kids = slices.Repeat([]impl.Expr{eVar("v")}, r.Intn(4))
	case 7:
		return chanceExpr(r, 30, impl.MaxDeep)
	case 8:
		e.Kids = append(slices.Clone(e.Kids), e)
	}
	return e
}

func TestFunctionsOfFormulasAnswerAnything(t *testing.T) {
	r := rand.New(rand.NewSource(64))
	right := 0
	for range 6000 {
		e := spoiledExpr(r, chanceExpr(r, 1+r.Intn(impl.MaxNodes), r.Intn(impl.MaxDeep+1)))
		if okByWords(e) {
			right++
			checkRight(t, e)
		} else {
			checkWrong(t, e)
		}
		checkPut(t, e, "v", chanceExpr(r, 5, 3))
		checkPut(t, chanceExpr(r, 5, 3), anyText(r), e)
	}
	if right < 100 || right > 5900 {
		t.Error("of 6000 are right:", right)
	}
	for _, s := range []string{strings.Repeat("a1 \n\t\xff", 100000), strings.Repeat("(", 1000000), strings.Repeat("-", 1000000), strings.Repeat("v+", 1000000)} {
		checkMisfit(t, s, 1)
		checkWrong(t, eVar(s))
		checkPut(t, eVar("v"), s, eVar("g"))
	}
}

// span is a piece of memory.
type span struct{ from, to uintptr }

func spanOf[T any](list []T) span {
	from := uintptr(unsafe.Pointer(unsafe.SliceData(list)))
	return span{from, from + uintptr(cap(list))*unsafe.Sizeof(*new(T))}
}

// spansOf are all pieces of memory that a formula holds, with their spare room.
func spansOf(e impl.Expr) []span {
	name := unsafe.Slice(unsafe.StringData(e.Name), len(e.Name))
	list := []span{spanOf(e.Num.Num.Limbs), spanOf(e.Num.Den.Limbs), spanOf(name), spanOf(e.Kids)}
	for _, kid := range e.Kids {
		list = append(list, spansOf(kid)...)
	}
	return slices.DeleteFunc(list, func(s span) bool { return s.from == s.to })
}

func meets(a []span, b []span) bool {
	for _, x := range a {
		for _, y := range b {
			if x.from < y.to && y.from < x.to {
				return true
			}
		}
	}
	return false
}

// meetsItself tells whether two of the pieces lie on each other.
func meetsItself(list []span) bool {
	for i := range list {
		if meets(list[i:i+1], list[i+1:]) {
			return true
		}
	}
	return false
}

// rooms is a record of the memory of formulas, with the spare room behind each list and Name.
type rooms struct {
	limbs [][]uint32
	kids  [][]impl.Expr
	names [][]byte
}

func (record *rooms) roomyExpr(e impl.Expr) impl.Expr {
	e.Num = roomyRat(e.Num, 7)
	record.limbs = append(record.limbs, wholeRoom(e.Num.Num), wholeRoom(e.Num.Den))
	bytes := append([]byte(e.Name), "behind"...)
	record.names = append(record.names, bytes)
	e.Name = unsafe.String(unsafe.SliceData(bytes), len(e.Name))
	kids := make([]impl.Expr, 0, len(e.Kids)+3)
	for _, kid := range e.Kids {
		kids = append(kids, record.roomyExpr(kid))
	}
	spare := kids[:cap(kids)]
	for i := len(kids); i < len(spare); i++ {
		spare[i] = eVar("spare")
	}
	record.kids = append(record.kids, spare)
	e.Kids = kids
	return e
}

// written is all that stands in the rooms, where it can be compared.
func (record *rooms) written() string {
	var text strings.Builder
	number := func(list ...int) {
		for _, n := range list {
			text.WriteString(strconv.Itoa(n) + " ")
		}
	}
	for _, list := range record.limbs {
		for _, limb := range list {
			number(int(limb))
		}
	}
	for _, list := range record.names {
		text.Write(list)
	}
	for _, list := range record.kids {
		for _, e := range list {
			number(e.Kind, e.P, e.Q, len(e.Name), len(e.Kids), cap(e.Kids), len(e.Num.Num.Limbs), cap(e.Num.Num.Limbs), len(e.Num.Den.Limbs), cap(e.Num.Den.Limbs))
			number(int(spanOf(e.Kids).from), int(spanOf(e.Num.Num.Limbs).from), int(spanOf(e.Num.Den.Limbs).from), int(uintptr(unsafe.Pointer(unsafe.StringData(e.Name)))))
			text.WriteString(strconv.FormatBool(e.Num.Num.Neg) + strconv.FormatBool(e.Num.Den.Neg))
		}
	}
	return text.String()
}

func (record *rooms) spans() []span {
	var list []span
	for _, room := range record.limbs {
		list = append(list, spanOf(room))
	}
	for _, room := range record.kids {
		list = append(list, spanOf(room))
	}
	for _, room := range record.names {
		list = append(list, spanOf(room))
	}
	return list
}

// overwrite writes into all of a formula that can be written into.
func overwrite(e impl.Expr) {
	scribble(wholeRoom(e.Num.Num))
	scribble(wholeRoom(e.Num.Den))
	whole := e.Kids[:cap(e.Kids)]
	for i := range whole {
		if i < len(e.Kids) {
			overwrite(whole[i])
		}
		whole[i] = impl.Expr{Kind: -5, Name: "other", P: 9}
	}
}

// memoryFormulas are right ones and wrong ones, of all Kinds.
func memoryFormulas() []impl.Expr {
	r := rand.New(rand.NewSource(65))
	list := append(eachKind(), eNum("0"), eNum("1e300"), eMany(60, eVar("v")), eMany(59, eNum("22/7")), eNegs(12, eVar("v")), eNegs(13, eVar("v")), impl.Expr{}, eVar(""), impl.Expr{Kind: 9, Name: "v", Kids: eachKind()}, eTwo("+", eVar("v"), eVar("v")), eTwo("*", eVar("v"), eNum("1/3")), ePow(eVar("v"), 2, 2))
	for range 40 {
		e := chanceExpr(r, 1+r.Intn(40), 8)
		list = append(list, e, spoiledExpr(r, e))
	}
	return list
}

func TestFormulasThatAreAskedAreNotWrittenInto(t *testing.T) {
	for _, e := range memoryFormulas() {
		var record rooms
		given := record.roomyExpr(e)
		kept := record.written()
		ok, text, names, nodes := impl.ExprOk(given), impl.ShowExpr(given), impl.NamesOf(given), impl.Nodes(given)
		if record.written() != kept {
			t.Fatalf("%v is written into", e)
		}
		if ok != okByWords(e) || ok && (text != showByWords(e) || !slices.Equal(names, namesByWords(e)) || nodes != countByWords(e)) {
			t.Errorf("%v with spare room: %v %q %q %d", e, ok, text, names, nodes)
		}
		told := []span{spanOf(unsafe.Slice(unsafe.StringData(text), len(text))), spanOf(names)}
		for _, name := range names {
			told = append(told, spanOf(unsafe.Slice(unsafe.StringData(name), len(name))))
		}
		if meets(told, record.spans()) {
			t.Errorf("an answer shares memory with %v", e)
		}
		// What was told stays where the argument is written anew.
		for _, bytes := range record.names {
			for i := range bytes {
				bytes[i] = 'Q'
			}
		}
		if ok && (text != showByWords(e) || !slices.Equal(names, namesByWords(e))) {
			t.Errorf("what was told of %v hangs on it", e)
		}
		whole := names[:cap(names)]
		for i := range whole {
			whole[i] = "other"
		}
		if again := impl.NamesOf(e); ok && !slices.Equal(again, namesByWords(e)) {
			t.Errorf("NamesOf of %v hangs on an earlier answer", e)
		}
	}
}

func checkPutMemory(t *testing.T, e impl.Expr, name string, with impl.Expr, record *rooms) {
	t.Helper()
	kept := record.written()
	first, ok := impl.Put(e, name, with)
	second, _ := impl.Put(e, name, with)
	if record.written() != kept {
		t.Fatalf("Put writes into %v or %v", e, with)
	}
	if meets(spansOf(first), record.spans()) || meetsItself(spansOf(first)) || meets(spansOf(first), spansOf(second)) {
		t.Fatalf("Put of %v into %v shares memory", with, e)
	}
	overwrite(first)
	if third, again := impl.Put(e, name, with); record.written() != kept || again != ok || !sameExpr(second, third) {
		t.Fatalf("Put of %v into %v hangs on an earlier answer", with, e)
	}
}

func TestFormulasThatArePutAreNeitherKeptNorWrittenInto(t *testing.T) {
	list := memoryFormulas()
	for i, e := range list {
		for j, with := range list {
			if j > 24 && (i+j)%8 != 0 {
				continue
			}
			var record rooms
			checkPutMemory(t, record.roomyExpr(e), "v", record.roomyExpr(with), &record)
			if (i+j)%5 == 0 {
				var other rooms
				checkPutMemory(t, other.roomyExpr(e), "none", other.roomyExpr(with), &other)
			}
		}
		var record rooms
		same := record.roomyExpr(e)
		checkPutMemory(t, same, "v", same, &record)
	}
	// A formula whose own lists share memory: its answer's don't.
	var record rooms
	part := record.roomyExpr(eTwo("*", eVar("v"), eNum("1e30")))
	shared := impl.Expr{Kind: impl.EAdd, Kids: []impl.Expr{part, part}}
	checkPutMemory(t, shared, "v", eVar("g"), &record)
	checkPutMemory(t, shared, "v", part, &record)
	checkPutMemory(t, shared, "none", shared, &record)
	checkPutMemory(t, eTwo("+", eVar("v"), eTwo("-", eVar("v"), eVar("v"))), "v", shared, &record)
	number := impl.Expr{Num: impl.Rat{Num: impl.FromInt(1), Den: impl.FromInt(1)}}
	number.Num.Den = number.Num.Num
	record.limbs = append(record.limbs, wholeRoom(number.Num.Num))
	checkPutMemory(t, number, "v", number, &record)
	checkPutMemory(t, eTwo("+", number, eVar("v")), "v", number, &record)
}

func TestFormulasThatAreReadTellNewMemory(t *testing.T) {
	for _, s := range append(formulaTexts(), "v^2 - g*v/t", "(a + 1)^-1/2 * 3/4", "1", "-v", "rho_1*1e300", "v+", "v^13", textOfNodes(60), textOfNodes(61)) {
		b := append([]byte(s), "behind"...)
		text := unsafe.String(unsafe.SliceData(b), len(s))
		first, place := impl.ParseExpr(text)
		second, _ := impl.ParseExpr(text)
		if string(b) != s+"behind" {
			t.Errorf("%.100q is written into", s)
		}
		if meets(spansOf(first), []span{spanOf(b)}) || meetsItself(spansOf(first)) || meets(spansOf(first), spansOf(second)) {
			t.Errorf("ParseExpr of %.100q shares memory", s)
		}
		for i := range b {
			b[i] = '1'
		}
		want, wantPlace := parseByWords(s)
		if place != wantPlace || !sameExpr(first, want) {
			t.Errorf("%.100q is kept", s)
		}
		overwrite(first)
		if third, _ := impl.ParseExpr(s); !sameExpr(second, want) || !sameExpr(third, want) {
			t.Errorf("ParseExpr of %.100q hangs on an earlier answer", s)
		}
	}
}

func TestNamesToPutAreNotKept(t *testing.T) {
	for _, name := range []string{"v", "none", ""} {
		b := append([]byte(name), "behind"...)
		text := unsafe.String(unsafe.SliceData(b), len(name))
		e := eTwo("+", eVar("v"), eVar("g"))
		got, ok := impl.Put(e, text, eVar("h"))
		if string(b) != name+"behind" || !ok || meets(spansOf(got), []span{spanOf(b)}) {
			t.Errorf("the name %q is written into, or kept", name)
		}
		for i := range b {
			b[i] = 'Q'
		}
		if !sameExpr(got, putByWords(e, name, eVar("h"))) {
			t.Errorf("the name %q is kept: %v", name, got)
		}
	}
}
