package tests

import (
	"fmt"
	"math"
	"math/big"
	"math/rand"
	"slices"
	"strconv"
	"strings"
	"testing"

	"loop.example/g00676/impl"
)

func varOf(name string, dim impl.Vec) impl.Var {
	return impl.Var{Name: name, Num: ratOfInts(1, 1), Dim: dim}
}

// varsOf are variables as written: each a name, a number, and its powers.
func varsOf(lines ...string) []impl.Var {
	var list []impl.Var
	for _, line := range lines {
		unit := bookOf("unit " + line).Units[0]
		list = append(list, impl.Var{Name: unit.Name, Num: unit.Num, Dim: unit.Dim})
	}
	return list
}

// plainVars are as many as may be, over the bases of plainNames.
func plainVars() []impl.Var {
	return varsOf("v 1 1 -1 0", "g 981/100 1 -2 0", "h 1/1000 1 0 0", "t 60 0 1 0", "rho 1 -3 0 1", "r 2 1/2 0 -1/3", "one 7 0 0 0", "far 1 100000 0 0")
}

var plainNames = []string{"m", "s", "kg"}

// sizedVars are so many variables, each of n powers.
func sizedVars(many int, n int) []impl.Var {
	var list []impl.Var
	for i := range many {
		list = append(list, impl.Var{Name: "v" + strconv.Itoa(i), Num: ratOfInts(i+1, 1), Dim: vecOf(1, manyInts(n, i)...)})
	}
	return list
}

// varsByWords is VarsOk in another way: its lists are gathered ahead of being asked.
func varsByWords(vars []impl.Var, n int) bool {
	if n < 0 || n > 8 || len(vars) > 8 {
		return false
	}
	names, right := []string{}, true
	for _, v := range vars {
		names = append(names, v.Name)
		right = right && aboveByWords(v.Num) && rightByWords(v.Dim) && len(v.Dim.At) == n
	}
	return right && apartByWords(names)
}

// inOrder are all that stand in a formula, kids ahead of what they stand in, the first kid ahead of the second.
func inOrder(e impl.Expr) []impl.Expr {
	var list []impl.Expr
	for _, kid := range e.Kids {
		list = append(list, inOrder(kid)...)
	}
	return append(list, e)
}

// dimByWords is DimOf in another way: one formula behind the other, with the powers that wait for what they stand in, in fractions of the library; the codes are written as the document has them.
func dimByWords(e impl.Expr, vars []impl.Var, n int) ([]*big.Rat, int) {
	if !varsByWords(vars, n) || !okByWords(e) {
		return nil, 1
	}
	var waiting [][]*big.Rat
	for _, x := range inOrder(e) {
		kids := waiting[len(waiting)-len(x.Kids):]
		made, code := madeByWords(x, kids, vars, n)
		if code > 0 {
			return nil, code
		}
		waiting = append(waiting[:len(waiting)-len(x.Kids)], made)
	}
	return waiting[0], 0
}

func madeByWords(x impl.Expr, kids [][]*big.Rat, vars []impl.Var, n int) ([]*big.Rat, int) {
	values := noughts(n)
	switch x.Kind {
	case 1:
		at := slices.IndexFunc(vars, func(v impl.Var) bool { return v.Name == x.Name })
		if at < 0 {
			return nil, 2
		}
		values = vecValues(vars[at].Dim)
	case 2, 3:
		if !sameValues(kids[0], kids[1]) {
			return nil, 3
		}
		values = kids[0]
	case 6:
		values = kids[0]
	case 4, 5, 7:
		for i := range values {
			switch x.Kind {
			case 4:
				values[i].Add(kids[0][i], kids[1][i])
			case 5:
				values[i].Sub(kids[0][i], kids[1][i])
			case 7:
				values[i].Mul(kids[0][i], big.NewRat(int64(x.P), int64(x.Q)))
			}
		}
	}
	if _, fits := vecOfValues(values); !fits {
		return nil, 4
	}
	return values, 0
}

func sameValues(a []*big.Rat, b []*big.Rat) bool {
	return slices.EqualFunc(a, b, func(x *big.Rat, y *big.Rat) bool { return x.Cmp(y) == 0 })
}

// checkDim holds DimOf, Balanced, Bare and SameDim of one formula against the second reckoning, and tells the code.
func checkDim(t *testing.T, e impl.Expr, vars []impl.Var, n int) int {
	t.Helper()
	var want impl.Vec
	values, wantCode := dimByWords(e, vars, n)
	if wantCode == 0 {
		want, _ = vecOfValues(values)
	}
	got, code := impl.DimOf(e, vars, n)
	if code != wantCode || !sameVec(got, want) || code == impl.DmOk && !impl.VecOk(got) {
		t.Errorf("DimOf of %s over %s by %d: %v %d, wanted %v %d", clipped(e), clipped(vars), n, got, code, want, wantCode)
	}
	balanced, bare, same := impl.Balanced(e, vars, n), impl.Bare(e, vars, n), impl.SameDim(e, e, vars, n)
	if balanced != (wantCode == 0) || bare != (wantCode == 0 && sameValues(values, noughts(n))) || same != balanced {
		t.Errorf("%s over %s by %d: Balanced %v, Bare %v, SameDim of it and itself %v", clipped(e), clipped(vars), n, balanced, bare, same)
	}
	return code
}

func checkSame(t *testing.T, a impl.Expr, b impl.Expr, vars []impl.Var, n int) bool {
	t.Helper()
	first, firstCode := dimByWords(a, vars, n)
	second, secondCode := dimByWords(b, vars, n)
	want := firstCode == 0 && secondCode == 0 && sameValues(first, second)
	got, turned := impl.SameDim(a, b, vars, n), impl.SameDim(b, a, vars, n)
	if got != want || turned != want {
		t.Errorf("SameDim of %s and %s over %s by %d: %v, turned %v, wanted %v", clipped(a), clipped(b), clipped(vars), n, got, turned, want)
	}
	return got
}

// checkVars wants VarsOk to be so, and no formula to have powers over variables that aren't.
func checkVars(t *testing.T, vars []impl.Var, n int, want bool) {
	t.Helper()
	if impl.VarsOk(vars, n) != want || varsByWords(vars, n) != want {
		t.Errorf("VarsOk of %s by %d: %v, in another way %v, wanted %v", clipped(vars), n, impl.VarsOk(vars, n), varsByWords(vars, n), want)
		return
	}
	list := []impl.Expr{eNum("2"), eVar("v"), eVar("v0"), eTwo("+", eVar("v0"), eVar("none")), eNegs(13, eVar("v")), {}}
	for _, v := range vars[:min(len(vars), 9)] {
		list = append(list, eVar(v.Name))
	}
	for _, e := range list {
		if code := checkDim(t, e, vars, n); (code == impl.DmArgs) != (!want || !okByWords(e)) {
			t.Errorf("DimOf of %s over %s by %d: %d", clipped(e), clipped(vars), n, code)
		}
		checkSame(t, e, eNum("1"), vars, n)
	}
}

// checkDims holds formulas, told by texts, against the powers or the code that they are to have over plainVars.
func checkDims(t *testing.T, code int, list ...[2]string) {
	t.Helper()
	for _, c := range list {
		e := needExpr(t, c[0])
		dim, got := impl.DimOf(e, plainVars(), 3)
		if text := textByWords(dim, plainNames); got != code || code == 0 && text != c[1] || code > 0 && !isZeroVec(dim) {
			t.Errorf("DimOf of %q: %q %v %d, wanted %q %d", c[0], text, dim, got, c[1], code)
		}
		checkDim(t, e, plainVars(), 3)
	}
}

func codesOnly(texts ...string) [][2]string {
	var list [][2]string
	for _, s := range texts {
		list = append(list, [2]string{s})
	}
	return list
}

func TestConstantsOfDimensions(t *testing.T) {
	codes := []int{impl.DmOk, impl.DmArgs, impl.DmName, impl.DmSum, impl.DmLarge}
	if !slices.Equal(codes, []int{0, 1, 2, 3, 4}) || impl.MaxVars != 8 {
		t.Error(codes, impl.MaxVars)
	}
}

func TestVarsOfEachSize(t *testing.T) {
	checkVars(t, nil, 0, true)
	checkVars(t, []impl.Var{}, 8, true)
	checkVars(t, plainVars(), 3, true)
	far := []int{math.MinInt, math.MinInt + 1, -1 << 32, -1000, 1000, 1 << 32, 1<<32 + 3, math.MaxInt}
	for many := range 12 {
		for n := -3; n < 12; n++ {
			right := n >= 0 && n <= impl.MaxLen && many <= impl.MaxVars
			checkVars(t, sizedVars(many, max(n, 0)), n, right)
			// The same ones by other numbers of powers: without variables any number that fits is right.
			for other := range 12 {
				checkVars(t, sizedVars(many, max(n, 0)), other, other <= impl.MaxLen && many <= impl.MaxVars && (many == 0 || other == max(n, 0)))
			}
		}
		for _, n := range far {
			checkVars(t, sizedVars(many, 3), n, false)
		}
	}
	checkVars(t, make([]impl.Var, 1000000), 0, false)
	checkVars(t, slices.Repeat(sizedVars(1, 2), 1000000), 2, false)
}

func TestNamesOfVars(t *testing.T) {
	for many := 1; many <= impl.MaxVars; many++ {
		for place := range many {
			for _, name := range namesThatAreSome() {
				vars := sizedVars(many, 2)
				vars[place].Name = name
				checkVars(t, vars, 2, true)
				checkVarAt(t, vars, name, place)
			}
			for _, name := range namesThatAreNone() {
				vars := sizedVars(many, 2)
				vars[place].Name = name
				checkVars(t, vars, 2, false)
			}
			for other := range many {
				vars := sizedVars(many, 2)
				vars[place].Name = vars[other].Name
				checkVars(t, vars, 2, place == other)
				// Alike in all is no better than alike in the name.
				vars[place] = vars[other]
				checkVars(t, vars, 2, place == other)
				vars[place].Name = strings.ToUpper(vars[place].Name)
				checkVars(t, vars, 2, true)
			}
		}
	}
}

func TestNumbersOfVars(t *testing.T) {
	for _, number := range slices.Concat(edgeRats(), wrongRats(), greatRats()) {
		right := impl.RatCmp(number, ratOfInts(0, 1)) == 1
		for place := range 3 {
			vars := sizedVars(3, 1)
			vars[place].Num = number
			if impl.VarsOk(vars, 1) != right || varsByWords(vars, 1) != right {
				t.Errorf("VarsOk with the number %s: %v", clipped(number), impl.VarsOk(vars, 1))
			}
		}
	}
	for _, number := range append(wrongRats(), ratOfInts(0, 1), ratOfInts(-1, 1), ratOfInts(-1, 1000), impl.Rat{Num: bigOfLimbs(true, 5), Den: impl.FromInt(1)}) {
		vars := sizedVars(2, 1)
		vars[1].Num = number
		checkVars(t, vars, 1, false)
	}
	// A Num of a variable has no limit of MaxDigits.
	for _, number := range append(greatRats(), ratOfInts(1, 1), ratOfInts(1, 1000), ratOfInts(7, 1)) {
		vars := sizedVars(2, 1)
		vars[0].Num = number
		checkVars(t, vars, 1, true)
	}
}

func TestDimsOfVars(t *testing.T) {
	for n := range impl.MaxLen + 1 {
		for k := range impl.MaxLen + 3 {
			for place := range 3 {
				vars := sizedVars(3, n)
				vars[place].Dim = vecOf(1, manyInts(k, 3)...)
				checkVars(t, vars, n, k == n)
			}
		}
		for place, dim := range wrongVecs() {
			vars := sizedVars(3, n)
			vars[place%3].Dim = dim
			checkVars(t, vars, n, false)
		}
		for place, dim := range edgeVecs(max(n, 1)) {
			vars := sizedVars(3, n)
			vars[place%3].Dim = dim
			checkVars(t, vars, n, n > 0)
		}
	}
	for place, dim := range wrongVecs() {
		n := len(dim.At)
		if n > impl.MaxLen {
			continue
		}
		vars := sizedVars(3, n)
		vars[place%3].Dim = dim
		checkVars(t, vars, n, false)
	}
}

func checkVarAt(t *testing.T, vars []impl.Var, name string, want int) {
	t.Helper()
	if got := impl.VarAt(vars, name); got != want {
		t.Errorf("VarAt of %.50q in %s: %d, wanted %d", name, clipped(vars), got, want)
	}
}

func TestVarAtOfNames(t *testing.T) {
	vars := plainVars()
	for place, v := range vars {
		checkVarAt(t, vars, v.Name, place)
		checkVarAt(t, vars[:place], v.Name, -1)
		checkVarAt(t, vars[place:], v.Name, 0)
	}
	for _, name := range []string{"", "x", "V", "v ", " v", "vv", "rh", "rhoo", "on", "m", "\xff", "v\x00", strings.Repeat("v", 100000)} {
		checkVarAt(t, vars, name, -1)
		checkVarAt(t, nil, name, -1)
		checkVarAt(t, []impl.Var{}, name, -1)
	}
	for first := range vars {
		for second := first + 1; second < len(vars); second++ {
			twice := plainVars()
			twice[second].Name = twice[first].Name
			checkVarAt(t, twice, twice[first].Name, first)
			twice[first].Name = "other"
			checkVarAt(t, twice, vars[first].Name, second)
		}
	}
}

// Variables needn't be VarsOk to have a place.
func TestVarAtOfWrongVars(t *testing.T) {
	checkVarAt(t, make([]impl.Var, 3), "", 0)
	checkVarAt(t, make([]impl.Var, 3), "v", -1)
	for place := range 20 {
		for _, name := range append(namesThatAreNone(), "v", "none") {
			vars := sizedVars(20, 9)
			vars[place] = impl.Var{Name: name}
			checkVarAt(t, vars, name, place)
			if name != "" {
				checkVarAt(t, vars, "", -1)
			}
		}
	}
	many := make([]impl.Var, 1000000)
	many[999999].Name = "last"
	checkVarAt(t, many, "last", 999999)
	checkVarAt(t, many, "", 0)
	checkVarAt(t, many, "none", -1)
}

func TestDimOfEachKind(t *testing.T) {
	checkDims(t, impl.DmOk, [][2]string{
		{"3", "1"}, {"0", "1"}, {"22/7", "1"}, {"1e300", "1"},
		{"v", "m s^-1"}, {"g", "m s^-2"}, {"h", "m"}, {"t", "s"}, {"rho", "m^-3 kg"}, {"r", "m^1/2 kg^-1/3"}, {"one", "1"}, {"far", "m^100000"},
		{"h + h", "m"}, {"v + v", "m s^-1"}, {"1 + 2", "1"}, {"1 + one", "1"}, {"r + r", "m^1/2 kg^-1/3"}, {"far + far", "m^100000"}, {"v + g*t", "m s^-1"}, {"g*t + v", "m s^-1"},
		{"h - h", "m"}, {"one - 1", "1"}, {"v - v", "m s^-1"}, {"far - far", "m^100000"}, {"g*t - v", "m s^-1"},
		{"g * t", "m s^-1"}, {"2 * v", "m s^-1"}, {"v * 2", "m s^-1"}, {"v * h", "m^2 s^-1"}, {"r * r", "m kg^-2/3"}, {"r * h", "m^3/2 kg^-1/3"}, {"0 * v", "m s^-1"}, {"h*h*h*rho", "kg"},
		{"h / t", "m s^-1"}, {"v / 2", "m s^-1"}, {"2 / v", "m^-1 s"}, {"t / h", "m^-1 s"}, {"r / h", "m^-1/2 kg^-1/3"}, {"1 / r", "m^-1/2 kg^1/3"}, {"h / r", "m^1/2 kg^1/3"}, {"v / h / h", "m^-1 s^-1"}, {"v / (h / h)", "m s^-1"},
		{"-v", "m s^-1"}, {"-1", "1"}, {"--v", "m s^-1"}, {"-far", "m^100000"}, {"-r", "m^1/2 kg^-1/3"},
		{"v^2", "m^2 s^-2"}, {"v^1", "m s^-1"}, {"v^-1", "m^-1 s"}, {"v^12", "m^12 s^-12"}, {"v^-12", "m^-12 s^12"}, {"h^1/12", "m^1/12"}, {"v^-5/7", "m^-5/7 s^5/7"}, {"r^6", "m^3 kg^-2"}, {"r^1/2", "m^1/4 kg^-1/6"}, {"r^2/3", "m^1/3 kg^-2/9"}, {"3^1/2", "1"}, {"one^-7/12", "1"}, {"far^1/12", "m^25000/3"}, {"far^11/11", "m^100000"}, {"far^-1", "m^-100000"},
	}...)
}

func TestDimOfFormulas(t *testing.T) {
	checkDims(t, impl.DmOk, [][2]string{
		{"v^2 - 2*g*h", "m^2 s^-2"}, {"v / (g*t) + 1", "1"}, {"(g*h)^1/2", "m s^-1"}, {"(g*h)^1/2 + v", "m s^-1"}, {"-v + g*t", "m s^-1"}, {"rho*v^2 / 2 + rho*g*h", "m^-1 s^-2 kg"}, {"-(v - g*t)^2 / h", "m s^-2"}, {"h - v*t - g*t^2 / 2", "m"}, {"(r*h^1/2)^3", "m^3 kg^-1"}, {"(-v)^2 + v*v", "m^2 s^-2"}, {"(h + h)^0 + 1", "1"},
		// What it is worth doesn't count.
		{"v / 0", "m s^-1"}, {"0^-1", "1"}, {"(v - v)^-1", "m^-1 s"}, {"(-1)^1/2", "1"}, {"h / (t - t)", "m s^-1"}, {"2^1/2 + 0^-12", "1"},
		// Powers that are too large in no step.
		{"far / h * h", "m^100000"}, {"far * h^-1", "m^99999"}, {"far / far * far", "m^100000"}, {"1 / far * far", "1"}, {"far^1/2 * far^1/2", "m^100000"}, {"(far/h)*h", "m^100000"}, {"far^1/2 / h * (far^1/2 * h)", "m^100000"}, {"(far^-1 * far)^12", "1"},
	}...)
}

// Where powers go away there are noughts, with Den 1.
func TestPowersThatCancel(t *testing.T) {
	for _, s := range []string{"v^0", "r^0", "far^0", "(v*r)^0", "v / v", "r / r", "far / far", "r * r^-1", "r^1/2 / r^1/2", "r^-6 * (r^2)^3", "v / h * t", "h^1/2 / h^1/3 / h^1/6", "(r / r)^5/12", "-(r / r)", "r/r + 1", "1 - r^0", "0 / 5", "1"} {
		dim, code := impl.DimOf(needExpr(t, s), plainVars(), 3)
		if code != impl.DmOk || !sameVec(dim, vecOf(1, 0, 0, 0)) || !impl.Bare(needExpr(t, s), plainVars(), 3) {
			t.Errorf("%q has powers: %v %d", s, dim, code)
		}
		checkDim(t, needExpr(t, s), plainVars(), 3)
	}
	// Also of one value alone.
	vars := varsOf("a 1 1/720 1/2", "b 1 719/720 1/2")
	for text, want := range map[string]impl.Vec{"a*b": vecOf(1, 1, 1), "a/b": vecOf(360, -359, 0), "a*a/b": vecOf(240, -239, 120), "(a/b)^0": vecOf(1, 0, 0), "a^2": vecOf(360, 1, 360), "a^12*b^12": vecOf(1, 12, 12)} {
		dim, code := impl.DimOf(needExpr(t, text), vars, 2)
		if code != impl.DmOk || !sameVec(dim, want) {
			t.Errorf("%q: %v %d, wanted %v", text, dim, code, want)
		}
		checkDim(t, needExpr(t, text), vars, 2)
	}
}

func TestNamesThatAreNoVariable(t *testing.T) {
	checkDims(t, impl.DmName, codesOnly("x", "V", "vv", "rh", "m", "x + v", "v + x", "x - v", "v - x", "x * v", "v * x", "x / v", "v / x", "-x", "x^2", "x^0", "(x * v)^0", "(x / x)^0", "0 * x", "x - x", "x / x", "x + x", "v + v + x", "v*t + h*x", "--x^0", "1 + (2 - (3 * (4 / x)))", "(v + g*t)^0 * x^0")...)
	// Without variables each name is one that is none.
	for _, s := range []string{"v", "v^0", "1 + v", "v / v"} {
		if _, code := impl.DimOf(needExpr(t, s), nil, 3); code != impl.DmName {
			t.Errorf("%q over no variables: %d", s, code)
		}
		checkDim(t, needExpr(t, s), nil, 3)
	}
	for n := range impl.MaxLen + 1 {
		dim, code := impl.DimOf(eNum("5"), nil, n)
		if code != impl.DmOk || !sameVec(dim, vecOf(1, manyInts(n, 0)...)) {
			t.Errorf("a number over no variables by %d: %v %d", n, dim, code)
		}
		checkDim(t, needExpr(t, "(1 + 2)^1/2 / -3"), nil, n)
	}
}

func TestSumsThatPart(t *testing.T) {
	checkDims(t, impl.DmSum, codesOnly("v + h", "v - h", "h + v", "v + 1", "1 - v", "0 + v", "v - 0", "v + 0*h", "v*h + h", "(v + h)^0", "-(v + h)", "(v + h) * 0", "(v + h) / (v + h)", "far + h", "r + h", "r + r^2", "r - 1/r", "v + v + h", "v + h + v", "h + (v + v)", "h + (v - h)", "v + v^-1", "rho + h^-3", "g*t - v*t", "one + v^1/12", "(h + t) - (h + t)")...)
	// They part at one place alone, the first or the last, by little.
	for n := 1; n <= impl.MaxLen; n++ {
		for place := range n {
			vars := []impl.Var{varOf("a", vecOf(719, manyInts(n, 1)...)), varOf("b", vecOf(719, manyInts(n, 1)...))}
			for _, s := range []string{"a + b", "a - b"} {
				e := needExpr(t, s)
				if dim, code := impl.DimOf(e, vars, n); code != impl.DmOk || !sameVec(dim, vars[0].Dim) {
					t.Errorf("%q of the same powers: %v %d", s, dim, code)
				}
			}
			vars[1].Dim.At[place] = 2
			for _, s := range []string{"a + b", "a - b", "b + a", "b - a"} {
				if code := checkDim(t, needExpr(t, s), vars, n); code != impl.DmSum {
					t.Errorf("%q of powers that part at %d: %d", s, place, code)
				}
			}
		}
	}
}

func TestPowersThatAreTooLarge(t *testing.T) {
	checkDims(t, impl.DmLarge, codesOnly("far * h", "h * far", "far * far", "far^2", "far^-2", "far^12", "1/far/h", "far / h^-1", "h^-1 / far", "(far * h)^0", "far * h / h", "far*h - far*h", "far^3/2", "-far^2", "far * h^1/7", "h^1/12/(1/far)", "(h^1/11)^1/9*(h^1/8)", "r^1/12*h^1/11", "((h^1/12)^1/12)^1/12")...)
	// The limits of what is below: 720 is met, more is refused.
	vars := varsOf("a 1 1/720", "b 1 1/7", "c 1 100000/719", "d 1 1/6")
	for text, want := range map[string]int{"a^1/2": 4, "a^2": 0, "a^5/7": 4, "a^12/11": 0, "a^11/12": 4, "a*a": 0, "a*d": 0, "a*b": 4, "b*a": 4, "a/b": 4, "b/a": 4, "b^1/12": 0, "b^1/12/b^1/11": 4, "a^-1": 0, "c*d": 4, "c^-1": 0, "c*c": 4, "c^2": 4, "c/c": 0, "c^1/2": 0, "c^1/3": 4, "d^1/12": 0, "d*b": 0, "d^1/11*b^1/2": 0, "d^1/11*b^1/5": 4, "(a*b)^0": 4, "a^1/2 - a^1/2": 4} {
		if code := checkDim(t, needExpr(t, text), vars, 1); code != want {
			t.Errorf("%q: %d, wanted %d", text, code, want)
		}
	}
}

// refusals are formulas over plainVars by the code that they have; the first one by none.
func refusals() []impl.Expr {
	v, h, far := eVar("v"), eVar("h"), eVar("far")
	return []impl.Expr{v, {}, eVar("x"), eTwo("+", v, h), eTwo("*", far, h), eNeg(eVar("none")), ePow(far, 2, 1), eTwo("-", h, eNum("1")), ePow(eVar("x"), 0, 1), ePow(eTwo("-", h, v), 0, 1)}
}

// The first fault that is met is told: that of the first kid, of the second kid, of what they stand in.
func TestTheFirstFaultIsTold(t *testing.T) {
	list := append(refusals()[:1], refusals()[2:]...)
	codeOf := func(e impl.Expr) int { return checkDim(t, e, plainVars(), 3) }
	for _, first := range list {
		for _, second := range list {
			for _, sign := range strings.Split(signsOfPairs, "") {
				want := codeOf(first)
				if want == 0 {
					want = codeOf(second)
				}
				pair := eTwo(sign, first, second)
				if code := codeOf(pair); code != want {
					t.Errorf("%s: %d, wanted %d", toldExpr(pair), code, want)
				}
				// Deeper ones, beside more faults.
				for _, third := range list {
					for _, whole := range []impl.Expr{eTwo("+", pair, third), eTwo("/", third, eNeg(pair)), eTwo("-", ePow(pair, 0, 1), third), eTwo("*", third, eTwo("-", eVar("h"), pair))} {
						codeOf(whole)
					}
				}
			}
		}
	}
	for _, e := range list {
		for _, whole := range []impl.Expr{eNeg(e), ePow(e, 0, 1), ePow(e, 1, 1), ePow(e, -12, 11), eNeg(ePow(eNeg(e), 1, 2))} {
			if codeOf(whole) != codeOf(e) {
				t.Errorf("%s: %d, wanted %d", toldExpr(whole), codeOf(whole), codeOf(e))
			}
		}
	}
	checkDims(t, impl.DmName, codesOnly("x + (v + h)", "x + far*h", "v + h*x", "h + x", "far + x*(v + h)", "x^0 + far^2", "(v + x) * (v + h)", "far * (h * x)", "(v*x) + (h*far)")...)
	checkDims(t, impl.DmSum, codesOnly("(v + h) * x", "(v + h) + x", "(v + h) + far^2", "(v + h)*(far*h)", "(h + v) + (far*h)", "far*(h + v)", "(v + h)^2 * far^2", "-(v + h)/x", "(v + h)^0 - x")...)
	checkDims(t, impl.DmLarge, codesOnly("far*h + x", "(far*h)*(v + h)", "far^2 - x", "v + far*far", "(far*h)^0 + (v + h)", "h + far^2", "1 - far*h", "far^2 * x^0")...)
}

func TestFormulasAndVarsThatAreRefused(t *testing.T) {
	wrong := []impl.Expr{{}, eVar(""), eVar("1"), {Kind: 9}, {Kind: -1}, {Kind: math.MinInt}, {Kind: math.MaxInt, Name: "v"}, {Kind: 1, Name: "v", P: 1}, {Kind: 2}, {Kind: 2, Kids: []impl.Expr{eVar("v")}}, {Kind: 4, Kids: slices.Repeat([]impl.Expr{eVar("v")}, 3)}, {Kind: 6}, {Kind: 7, P: 1, Q: 1}, ePow(eVar("v"), 2, 2), ePow(eVar("v"), 0, 0), ePow(eVar("v"), 13, 1), ePow(eVar("v"), 1, -1), ePow(eVar("v"), 0, 2), eNegs(13, eVar("v")), eNegs(13, eVar("x")), eMany(61, eVar("v")), eNegs(200000, eVar("v")), eTwo("+", eVar("x"), eVar("")), eTwo("+", eTwo("+", eVar("v"), eVar("h")), impl.Expr{}), {Num: ratOfInts(-1, 1)}, {Num: ratOfInts(2, 4)}, {Num: numberOfBytes(t, 401)}}
	loop := make([]impl.Expr, 2)
	loop[0], loop[1] = impl.Expr{Kind: impl.EMul, Kids: loop}, eVar("v")
	wrong = append(wrong, loop[0], eNeg(loop[0]))
	twice := append(plainVars()[:2], plainVars()[:2]...)
	spaces := []struct {
		vars  []impl.Var
		n     int
		right bool
	}{{plainVars(), 3, true}, {nil, 0, true}, {nil, 8, true}, {plainVars(), 2, false}, {plainVars(), 4, false}, {plainVars(), -1, false}, {nil, -1, false}, {nil, 9, false}, {sizedVars(9, 3), 3, false}, {twice, 3, false}, {make([]impl.Var, 1), 0, false}}
	right := append(refusals()[:1], refusals()[2:]...)
	for _, space := range spaces {
		for _, e := range append(slices.Clone(wrong), right...) {
			refused := !space.right || !okByWords(e)
			code := checkDim(t, e, space.vars, space.n)
			if (code == impl.DmArgs) != refused {
				t.Errorf("DimOf of %s over %s by %d: %d", clipped(e), clipped(space.vars), space.n, code)
			}
			for _, other := range []impl.Expr{e, eNum("1"), {}, eVar("x"), eVar("v")} {
				checkSame(t, e, other, space.vars, space.n)
			}
		}
	}
}

// eachKindOf is a formula of each Kind over these kids.
func eachKindOf(a impl.Expr, b impl.Expr) []impl.Expr {
	return []impl.Expr{eNum("3/4"), eVar("v"), eTwo("+", a, b), eTwo("-", a, b), eTwo("*", a, b), eTwo("/", a, b), eNeg(a), ePow(a, -2, 3), ePow(b, 0, 1)}
}

func TestDimOfEachKindInEachOther(t *testing.T) {
	codes := map[int]int{}
	for _, names := range [][2]string{{"v", "v"}, {"v", "g"}, {"h", "far"}, {"one", "r"}, {"r", "r"}, {"far", "far"}, {"one", "one"}, {"x", "v"}, {"v", "x"}} {
		below := eachKindOf(eVar(names[0]), eVar(names[1]))
		for _, a := range below {
			for _, b := range below {
				for _, e := range eachKindOf(a, b) {
					codes[checkDim(t, e, plainVars(), 3)]++
					codes[checkDim(t, eTwo("*", eNeg(e), ePow(a, 1, 2)), plainVars(), 3)]++
				}
				checkSame(t, a, b, plainVars(), 3)
			}
		}
	}
	for _, code := range []int{impl.DmOk, impl.DmName, impl.DmSum, impl.DmLarge} {
		if codes[code] < 50 {
			t.Errorf("code %d only %d times", code, codes[code])
		}
	}
}

// A formula over no bases has no powers, but it may still be refused.
func TestDimOfWithoutBases(t *testing.T) {
	vars := []impl.Var{varOf("v", vecOf(1)), varOf("h", impl.Vec{Den: 1, At: []int{}})}
	for text, want := range map[string]int{"3": 0, "v": 0, "h": 0, "v + h": 0, "h - 1": 0, "v * h": 0, "v / h": 0, "-v": 0, "v^12": 0, "v^-1/12": 0, "v^0": 0, "(v + 1)^5/7 - h": 0, "x": 2, "v + x": 2, "x^0": 2} {
		e := needExpr(t, text)
		dim, code := impl.DimOf(e, vars, 0)
		if code != want || len(dim.At) != 0 || code == 0 && dim.Den != 1 || code > 0 && dim.Den != 0 {
			t.Errorf("%q without bases: %v %d, wanted %d", text, dim, code, want)
		}
		checkDim(t, e, vars, 0)
		if impl.Bare(e, vars, 0) != (want == 0) || impl.SameDim(e, eNum("7"), vars, 0) != (want == 0) {
			t.Errorf("%q without bases: Bare %v", text, impl.Bare(e, vars, 0))
		}
	}
	for _, e := range []impl.Expr{eNum("1"), eVar("v"), {}} {
		if code := checkDim(t, e, vars, 1); code != impl.DmArgs {
			t.Errorf("%v over variables of no powers, by 1: %d", e, code)
		}
	}
}

// Each power of each Vec at an edge: the same as VecScale tells.
func TestDimOfPowers(t *testing.T) {
	codes := map[int]int{}
	for _, n := range []int{1, 3, impl.MaxLen} {
		for i, dim := range edgeVecs(n) {
			vars := []impl.Var{varOf("a", dim)}
			for p := -impl.MaxExp; p <= impl.MaxExp; p++ {
				for q := 1; q <= impl.MaxExp; q++ {
					if !powerByWords(p, q) || n > 1 && (i+p+q)%5 != 0 {
						continue
					}
					e := ePow(eVar("a"), p, q)
					codes[checkDim(t, e, vars, n)]++
					want, ok := impl.VecScale(dim, p, q)
					if got, code := impl.DimOf(e, vars, n); !sameVec(got, want) || ok != (code == impl.DmOk) || !ok && code != impl.DmLarge {
						t.Errorf("%v to the %d divided by %d: %v %d", dim, p, q, got, code)
					}
				}
			}
		}
	}
	if codes[impl.DmOk] < 1000 || codes[impl.DmLarge] < 1000 || len(codes) != 2 {
		t.Error(codes)
	}
}

// Each pair of Vecs at an edge: as VecAdd, VecScale and VecCmp tell.
func TestDimOfPairs(t *testing.T) {
	codes := map[int]int{}
	a, b := eVar("a"), eVar("b")
	for i, pair := range vecPairs() {
		vars, n := []impl.Var{varOf("a", pair[0]), varOf("b", pair[1])}, len(pair[0].At)
		turned, _ := impl.VecScale(pair[1], -1, 1)
		product, productOk := impl.VecAdd(pair[0], pair[1])
		quotient, quotientOk := impl.VecAdd(pair[0], turned)
		alike := impl.VecCmp(pair[0], pair[1]) == 0
		sum := impl.Vec{}
		if alike {
			sum = pair[0]
		}
		for _, c := range []struct {
			sign string
			want impl.Vec
			ok   bool
			code int
		}{{"*", product, productOk, impl.DmLarge}, {"/", quotient, quotientOk, impl.DmLarge}, {"+", sum, alike, impl.DmSum}, {"-", sum, alike, impl.DmSum}} {
			e := eTwo(c.sign, a, b)
			got, code := impl.DimOf(e, vars, n)
			if !sameVec(got, c.want) || c.ok && code != impl.DmOk || !c.ok && code != c.code {
				t.Errorf("a %s b of %v and %v: %v %d, wanted %v", c.sign, pair[0], pair[1], got, code, c.want)
			}
			codes[code]++
		}
		if impl.SameDim(a, b, vars, n) != alike {
			t.Errorf("SameDim of %v and %v: %v", pair[0], pair[1], !alike)
		}
		if i%7 == 0 {
			sign := signsOfPairs[i%4:][:1]
			checkDim(t, eTwo(sign, a, b), vars, n)
			checkSame(t, a, b, vars, n)
		}
	}
	if codes[impl.DmOk] < 1000 || codes[impl.DmSum] < 1000 || codes[impl.DmLarge] < 1000 || len(codes) != 3 {
		t.Error(codes)
	}
}

// eProduct is a product of so many formulas in all (an odd number), as flat as it may be.
func eProduct(nodes int, leaf impl.Expr) impl.Expr {
	if nodes == 1 {
		return leaf
	}
	left := (nodes - 1) / 4 * 2
	if left%2 == 0 {
		left++
	}
	return eTwo("*", eProduct(left, leaf), eProduct(nodes-1-left, leaf))
}

func TestDimOfFormulasAtTheirLimits(t *testing.T) {
	vars := plainVars()
	for nodes := 1; nodes < 66; nodes++ {
		for _, name := range []string{"v", "one", "r", "x"} {
			code := checkDim(t, eMany(nodes, eVar(name)), vars, 3)
			if want := name == "x"; code == impl.DmArgs != (nodes > impl.MaxNodes) || code == impl.DmName != (want && nodes <= impl.MaxNodes) {
				t.Errorf("%d formulas of %s: %d", nodes, name, code)
			}
		}
		if nodes%2 == 1 {
			dim, code := impl.DimOf(eProduct(nodes, eVar("h")), vars, 3)
			if nodes <= impl.MaxNodes && (code != impl.DmOk || !sameVec(dim, vecOf(1, (nodes+1)/2, 0, 0))) {
				t.Errorf("a product of %d formulas: %v %d", nodes, dim, code)
			}
			checkDim(t, eProduct(nodes, eVar("h")), vars, 3)
		}
	}
	// The last of as many as may be is the one that counts.
	for _, last := range []string{"x", "h"} {
		e := eTwo("+", eMany(29, eVar("v")), eNeg(eMany(28, eVar("v"))))
		code := checkDim(t, eTwo("-", eMany(55, eVar("v")), eNeg(eNeg(eNeg(eVar(last))))), vars, 3)
		if impl.Nodes(e) != 59 || code != map[string]int{"x": impl.DmName, "h": impl.DmSum}[last] {
			t.Errorf("%s as the last one: %d", last, code)
		}
	}
	for deep := range 16 {
		pows, roots := eVar("h"), eVar("h")
		for i := range deep {
			pows, roots = ePow(pows, 2, 1), ePow(roots, 1+i%2, 2-i%2)
		}
		for _, e := range []impl.Expr{eNegs(deep, eVar("v")), eNegs(deep, eVar("x")), eNegs(deep, eTwo("+", eVar("v"), eVar("h"))), pows, roots, eDeep(deep, true), eDeep(deep, false)} {
			if code := checkDim(t, e, vars, 3); code == impl.DmArgs != !okByWords(e) {
				t.Errorf("%d deep: %d", deep, code)
			}
			checkDim(t, e, varsOf("v 1 0", "x 1 0"), 1)
			checkDim(t, e, varsOf("v 1 2", "x 1 -2"), 1)
		}
	}
}

func TestBalancedAndBare(t *testing.T) {
	for text, want := range map[string][2]bool{"v": {true, false}, "1": {true, true}, "one": {true, true}, "v / v": {true, true}, "v / h * t": {true, true}, "v^0": {true, true}, "v / h": {true, false}, "h^1/12": {true, false}, "far": {true, false}, "v + h": {false, false}, "1 + v": {false, false}, "x": {false, false}, "x / x": {false, false}, "x^0": {false, false}, "far^2": {false, false}, "(far^2)^0": {false, false}, "(v + h)^0": {false, false}} {
		e := needExpr(t, text)
		balanced, bare := impl.Balanced(e, plainVars(), 3), impl.Bare(e, plainVars(), 3)
		if balanced != want[0] || bare != want[1] {
			t.Errorf("%q: Balanced %v, Bare %v", text, balanced, bare)
		}
		// By a wrong number of powers, or over variables that aren't right, it is neither.
		for _, n := range []int{-1, 0, 2, 4, 9, math.MinInt, math.MaxInt} {
			if impl.Balanced(e, plainVars(), n) || impl.Bare(e, plainVars(), n) || impl.SameDim(e, e, plainVars(), n) {
				t.Errorf("%q by %d is taken", text, n)
			}
		}
	}
	// Also where all is refused, and the zero Vec is told.
	for _, n := range []int{-1, 0, 1, 8, 9} {
		if impl.Balanced(impl.Expr{}, nil, n) || impl.Bare(impl.Expr{}, nil, n) || impl.SameDim(impl.Expr{}, impl.Expr{}, nil, n) || impl.SameDim(eNum("1"), impl.Expr{}, nil, n) || impl.SameDim(impl.Expr{}, eNum("1"), nil, n) {
			t.Errorf("no formula is taken by %d", n)
		}
		if right := n >= 0 && n <= 8; impl.Balanced(eNum("1"), nil, n) != right || impl.Bare(eNum("1"), nil, n) != right || impl.SameDim(eNum("1"), eNum("2"), nil, n) != right {
			t.Errorf("a number by %d: %v", n, !right)
		}
	}
}

func TestSameDimOfTwo(t *testing.T) {
	for _, c := range []struct {
		a, b string
		want bool
	}{
		{"v", "v", true}, {"v", "g*t", true}, {"v", "(g*h)^1/2", true}, {"v", "-2*v", true}, {"1", "one", true}, {"1", "v/v", true}, {"v^0", "r^0", true}, {"r*r", "h/h^0*(r*r/h)", true}, {"far", "far/h*h", true}, {"h^1/2", "h/h^1/2", true},
		{"v", "h", false}, {"v", "v^-1", false}, {"v", "1", false}, {"h", "h^2", false}, {"r", "r^1/2", false}, {"t", "h", false}, {"far", "far/h", false}, {"one", "r", false}, {"h^1/11", "h^1/12", false},
		{"v", "x", false}, {"x", "x", false}, {"v", "v + h", false}, {"v + h", "v + h", false}, {"v + h", "v + t", false}, {"far*h", "far*h", false}, {"far", "far*h", false}, {"x", "v + h", false}, {"v + h", "far^2", false}, {"far^2", "x", false}, {"x^0", "1", false}, {"(far^2)^0", "1", false}, {"(v + h)^0", "1", false},
	} {
		if got := checkSame(t, needExpr(t, c.a), needExpr(t, c.b), plainVars(), 3); got != c.want {
			t.Errorf("SameDim of %q and %q: %v", c.a, c.b, got)
		}
	}
	for _, a := range refusals() {
		for _, b := range refusals() {
			if checkSame(t, a, b, plainVars(), 3) != (sameExpr(a, eVar("v")) && sameExpr(b, eVar("v"))) {
				t.Errorf("SameDim of %v and %v", a, b)
			}
		}
	}
}

var namesInChance = []string{"v", "g", "h", "x", "rho_1", "V", "abcdefghijkl", "q"}

// chanceVars are right; often many of them have one of few Dims.
func chanceVars(r *rand.Rand, n int) []impl.Var {
	names := slices.Clone(namesInChance)
	r.Shuffle(len(names), func(i int, j int) { names[i], names[j] = names[j], names[i] })
	dims := []impl.Vec{vecOf(1, manyInts(n, 0)...), chanceVec(r, n)}
	var list []impl.Var
	for _, name := range names[:len(names)-r.Intn(3)*r.Intn(5)] {
		if r.Intn(3) == 0 {
			dims = append(dims, chanceVec(r, n))
		}
		list = append(list, impl.Var{Name: name, Num: chanceNumber(r), Dim: dims[r.Intn(len(dims))]})
	}
	return list
}

// chanceBalanced has sums of what has the same powers alone; it may be too large.
func chanceBalanced(r *rand.Rand, vars []impl.Var, deep int) impl.Expr {
	if deep <= 0 || r.Intn(8) == 0 {
		if len(vars) == 0 || r.Intn(5) == 0 {
			return eNum("3/4")
		}
		return eVar(vars[r.Intn(len(vars))].Name)
	}
	kid := chanceBalanced(r, vars, deep-1)
	switch kind := 2 + r.Intn(6); kind {
	case impl.ENeg:
		return eNeg(kid)
	case impl.EPow:
		powers := [][2]int{{0, 1}, {1, 1}, {2, 1}, {-1, 1}, {-2, 1}, {1, 2}, {-1, 3}, {3, 2}, {12, 1}, {1, 12}}
		power := powers[r.Intn(len(powers))]
		return ePow(kid, power[0], power[1])
	case impl.EMul, impl.EDiv:
		return eTwo(signsOfPairs[kind-2:kind-1], kid, chanceBalanced(r, vars, deep-2))
	default:
		return eTwo(signsOfPairs[kind-2:kind-1], kid, alikeExpr(r, kid))
	}
}

// alikeExpr has the same powers as e, in another way.
func alikeExpr(r *rand.Rand, e impl.Expr) impl.Expr {
	switch r.Intn(6) {
	case 0:
		return eNeg(e)
	case 1:
		return eTwo("*", eNum("2"), e)
	case 2:
		return eTwo("/", e, eNum("22/7"))
	case 3:
		return ePow(ePow(e, 1, 2), 2, 1)
	case 4:
		return ePow(ePow(e, -1, 1), -1, 1)
	}
	return e
}

func TestDimOfChanceFormulas(t *testing.T) {
	r := rand.New(rand.NewSource(91))
	codes := map[int]int{}
	for range 12000 {
		n := r.Intn(impl.MaxLen + 1)
		vars := chanceVars(r, n)
		if !varsByWords(vars, n) {
			t.Fatal("no right variables:", vars)
		}
		e := chanceBalanced(r, vars, r.Intn(7))
		if r.Intn(2) == 0 {
			e = chanceExpr(r, 1+r.Intn(20), r.Intn(8))
		}
		codes[checkDim(t, e, vars, n)]++
		checkSame(t, e, chanceBalanced(r, vars, 2), vars, n)
	}
	for code := range 5 {
		if codes[code] < 50 {
			t.Errorf("code %d only %d times: %v", code, codes[code], codes)
		}
	}
}

// Products of formulas have the sum of their powers, and quotients the difference; a power has so many times them.
func TestProductsHaveTheSumOfPowers(t *testing.T) {
	r := rand.New(rand.NewSource(92))
	told, large := 0, 0
	for range 6000 {
		n := r.Intn(impl.MaxLen + 1)
		vars := chanceVars(r, n)
		a, b, c := chanceBalanced(r, vars, 3), chanceBalanced(r, vars, 3), chanceBalanced(r, vars, 2)
		first, firstCode := impl.DimOf(a, vars, n)
		second, secondCode := impl.DimOf(b, vars, n)
		if firstCode != impl.DmOk || secondCode != impl.DmOk {
			continue
		}
		product, code := impl.DimOf(eTwo("*", a, b), vars, n)
		sum, ok := impl.VecAdd(first, second)
		if ok != (code == impl.DmOk) || !sameVec(product, sum) {
			t.Errorf("a product of powers %v and %v: %v %d", first, second, product, code)
		}
		turned, _ := impl.DimOf(eTwo("*", b, a), vars, n)
		back := eTwo("/", eTwo("*", a, b), b)
		quotient, quotientCode := impl.DimOf(back, vars, n)
		if !sameVec(turned, product) || ok && okByWords(back) && (quotientCode != impl.DmOk || !sameVec(quotient, first)) {
			t.Errorf("%v and %v: turned %v, taken back %v %d", first, second, turned, quotient, quotientCode)
		}
		left, leftCode := impl.DimOf(eTwo("*", eTwo("*", a, b), c), vars, n)
		right, rightCode := impl.DimOf(eTwo("*", a, eTwo("*", b, c)), vars, n)
		if leftCode == impl.DmOk && rightCode == impl.DmOk && !sameVec(left, right) {
			t.Errorf("brackets count: %v and %v", left, right)
		}
		square, squareCode := impl.DimOf(ePow(a, 2, 1), vars, n)
		same, sameCode := impl.DimOf(eTwo("*", a, a), vars, n)
		if squareCode != sameCode || !sameVec(square, same) {
			t.Errorf("a square of %v: %v %d, as a product %v %d", first, square, squareCode, same, sameCode)
		}
		if ok {
			told++
		} else {
			large++
		}
	}
	if told < 3000 || large < 100 {
		t.Error("too few of a kind:", told, large)
	}
}

// A sum has a dimension just where its kids have the same one, and it is theirs.
func TestSumsHaveADimensionWhereTheirKidsHaveIt(t *testing.T) {
	r := rand.New(rand.NewSource(93))
	have, part := 0, 0
	for range 8000 {
		n := r.Intn(impl.MaxLen + 1)
		vars := chanceVars(r, n)
		a, b := chanceBalanced(r, vars, 3), chanceBalanced(r, vars, 3)
		if r.Intn(2) == 0 {
			b = alikeExpr(r, a)
		}
		dim, _ := impl.DimOf(a, vars, n)
		for _, sign := range []string{"+", "-"} {
			for _, e := range []impl.Expr{eTwo(sign, a, b), eTwo(sign, b, a)} {
				got, code := impl.DimOf(e, vars, n)
				same := impl.SameDim(a, b, vars, n)
				if okByWords(e) && (code == impl.DmOk) != same || code == impl.DmOk && !sameVec(got, dim) {
					t.Errorf("%s over %v: %v %d, its kids' are the same: %v", toldExpr(e), vars, got, code, same)
				}
				if impl.Balanced(a, vars, n) && impl.Balanced(b, vars, n) && !same && okByWords(e) && code != impl.DmSum {
					t.Errorf("%s over %v: %d", toldExpr(e), vars, code)
				}
				if code == impl.DmOk {
					have++
				} else if code == impl.DmSum {
					part++
				}
			}
		}
	}
	if have < 5000 || part < 3000 {
		t.Error("too few of a kind:", have, part)
	}
}

// The order of variables doesn't count, nor what is measured in, nor a variable that doesn't stand there.
func TestDimOfOverOtherVars(t *testing.T) {
	r := rand.New(rand.NewSource(94))
	for range 3000 {
		n := r.Intn(impl.MaxLen + 1)
		vars := chanceVars(r, n)
		e := chanceBalanced(r, vars, r.Intn(5))
		dim, code := impl.DimOf(e, vars, n)
		others := slices.Clone(vars)
		r.Shuffle(len(others), func(i int, j int) { others[i], others[j] = others[j], others[i] })
		others = slices.DeleteFunc(others, func(v impl.Var) bool { return okByWords(e) && !slices.Contains(namesByWords(e), v.Name) })
		for i := range others {
			others[i].Num = chanceNumber(r)
		}
		if got, gotCode := impl.DimOf(e, others, n); gotCode != code || !sameVec(got, dim) {
			t.Errorf("%s over %v: %v %d, over %v: %v %d", clipped(e), vars, dim, code, others, got, gotCode)
		}
	}
}

// spoiledVars have one thing changed; mostly they aren't right any more.
func spoiledVars(r *rand.Rand, vars []impl.Var) []impl.Var {
	vars = slices.Clone(vars)
	odd := append(namesThatAreNone()[:20], namesInChance...)
	added := impl.Var{Name: odd[r.Intn(len(odd))], Num: chanceNumber(r), Dim: chanceVec(r, r.Intn(9))}
	if len(vars) == 0 || r.Intn(6) == 0 {
		return append(vars, added)
	}
	at := r.Intn(len(vars))
	switch r.Intn(5) {
	case 0:
		vars[at].Name = odd[r.Intn(len(odd))]
	case 1:
		vars[at].Num = append(wrongRats()[:20], edgeRats()[:30]...)[r.Intn(50)]
	case 2:
		vars[at].Dim = wrongVecs()[r.Intn(40)]
	case 3:
		vars[at].Dim = added.Dim
	case 4:
		vars[at] = vars[r.Intn(len(vars))]
	}
	return vars
}

func TestFunctionsOfDimensionsAnswerAnything(t *testing.T) {
	r := rand.New(rand.NewSource(95))
	right := 0
	for range 6000 {
		n := r.Intn(impl.MaxLen + 1)
		vars := chanceVars(r, n)
		if r.Intn(2) == 0 {
			vars = spoiledVars(r, vars)
		}
		if r.Intn(8) == 0 {
			n = []int{-1, 9, math.MinInt, math.MaxInt, r.Intn(9)}[r.Intn(5)]
		}
		if impl.VarsOk(vars, n) != varsByWords(vars, n) {
			t.Errorf("VarsOk of %s by %d: %v", clipped(vars), n, impl.VarsOk(vars, n))
		}
		if varsByWords(vars, n) {
			right++
		}
		e := chanceExpr(r, 1+r.Intn(12), r.Intn(6))
		if r.Intn(2) == 0 {
			e = spoiledExpr(r, e)
		}
		checkDim(t, e, vars, n)
		checkSame(t, e, chanceBalanced(r, vars, 1), vars, n)
		name := anyText(r)
		checkVarAt(t, vars, name, slices.IndexFunc(vars, func(v impl.Var) bool { return v.Name == name }))
	}
	if right < 1500 || right > 5000 {
		t.Error("of 6000 are right:", right)
	}
	long := strings.Repeat("a1 \n\t\xff", 100000)
	checkVars(t, []impl.Var{varOf(long, vecOf(1))}, 0, false)
	checkDim(t, eVar(long), plainVars(), 3)
	checkVars(t, []impl.Var{{Name: "v", Num: impl.Rat{Num: bigOfLimbs(false, manyLimbs(1000000, 1)...), Den: impl.FromInt(1)}, Dim: vecOf(1)}}, 0, false)
	checkVars(t, []impl.Var{varOf("v", vecOf(1, make([]int, 1000000)...))}, 0, false)
}

// varRooms is a record of the memory of variables and formulas, with the spare room behind each list and Name.
type varRooms struct {
	bookRooms
	vars [][]impl.Var
}

func (record *varRooms) roomyVars(vars []impl.Var) []impl.Var {
	var told []impl.Var
	for _, v := range vars {
		v = impl.Var{Name: record.roomyText(v.Name), Num: record.roomyNumber(v.Num), Dim: roomyVec(v.Dim, 7)}
		record.powers = append(record.powers, vecRoom(v.Dim))
		told = append(told, v)
	}
	told = withSpare(told, impl.Var{Name: "spare"})
	record.vars = append(record.vars, told[:cap(told)])
	return told
}

func (record *varRooms) standingThere() string {
	text := record.standing()
	for _, vars := range record.vars {
		text += fmt.Sprint(vars)
		for _, v := range vars {
			text += fmt.Sprint(spanOfText(v.Name), spanOf(v.Num.Num.Limbs), spanOf(v.Num.Den.Limbs), spanOf(v.Dim.At))
		}
	}
	return text
}

func (record *varRooms) allSpansThere() []span {
	list := record.allSpans()
	for _, vars := range record.vars {
		list = append(list, spanOf(vars))
	}
	return list
}

func (record *varRooms) overwriteAllThere() {
	record.overwriteAll()
	for _, vars := range record.vars {
		clear(vars)
	}
	for _, kids := range record.kids {
		clear(kids)
	}
}

// dimCall has all that a function of dimensions may be given.
type dimCall struct {
	a    impl.Expr
	b    impl.Expr
	vars []impl.Var
	n    int
	name string
}

type dimAnswer struct {
	dim  impl.Vec
	code int
	ok   bool
}

func sameDimAnswer(a dimAnswer, b dimAnswer) bool {
	return sameVec(a.dim, b.dim) && a.code == b.code && a.ok == b.ok
}

func dimCalls() map[string]func(c dimCall) dimAnswer {
	return map[string]func(c dimCall) dimAnswer{
		"VarsOk": func(c dimCall) dimAnswer { return dimAnswer{ok: impl.VarsOk(c.vars, c.n)} },
		"VarAt":  func(c dimCall) dimAnswer { return dimAnswer{code: impl.VarAt(c.vars, c.name)} },
		"DimOf": func(c dimCall) (a dimAnswer) {
			a.dim, a.code = impl.DimOf(c.a, c.vars, c.n)
			return a
		},
		"Balanced": func(c dimCall) dimAnswer { return dimAnswer{ok: impl.Balanced(c.a, c.vars, c.n)} },
		"Bare":     func(c dimCall) dimAnswer { return dimAnswer{ok: impl.Bare(c.a, c.vars, c.n)} },
		"SameDim":  func(c dimCall) dimAnswer { return dimAnswer{ok: impl.SameDim(c.a, c.b, c.vars, c.n)} },
	}
}

// checkDimMemory calls a function twice with all in rooms, and writes into these and into the first answer.
func checkDimMemory(t *testing.T, name string, call func(c dimCall) dimAnswer, c dimCall) {
	t.Helper()
	var record varRooms
	given := dimCall{record.roomyExpr(c.a), record.roomyExpr(c.b), record.roomyVars(c.vars), c.n, record.roomyText(c.name)}
	kept := record.standingThere()
	first, second := call(given), call(given)
	if record.standingThere() != kept {
		t.Fatalf("%s writes into %s", name, clipped(c))
	}
	mine, other := []span{spanOf(first.dim.At)}, []span{spanOf(second.dim.At)}
	if meets(mine, record.allSpansThere()) || meets(mine, other) {
		t.Errorf("%s of %s shares memory", name, clipped(c))
	}
	record.overwriteAllThere()
	want := call(c)
	if !sameDimAnswer(first, want) {
		t.Errorf("%s of %s is kept: %v, wanted %v", name, clipped(c), first, want)
	}
	for i := range vecRoom(first.dim) {
		vecRoom(first.dim)[i] = -5
	}
	if !sameDimAnswer(second, want) || !sameDimAnswer(call(c), want) {
		t.Errorf("%s of %s hangs on an earlier answer", name, clipped(c))
	}
}

func TestVarsAndFormulasAreNeitherKeptNorWrittenInto(t *testing.T) {
	r := rand.New(rand.NewSource(96))
	var list []dimCall
	for _, s := range []string{"v", "h", "3", "v + v", "v - v", "2 * v", "v / 1", "-v", "--v", "v^1", "v^2", "v^0", "r^1/2", "v + g*t", "v^2 - 2*g*h", "x", "v + h", "far^2", "x + (v + h)", "far * h"} {
		list = append(list, dimCall{needExpr(t, s), eVar("v"), plainVars(), 3, "v"}, dimCall{needExpr(t, s), needExpr(t, s), plainVars(), 2, ""})
	}
	for _, e := range []impl.Expr{eVar("v"), eNum("1"), {}, eNegs(13, eVar("v"))} {
		list = append(list, dimCall{e, e, nil, 0, "v"}, dimCall{e, e, []impl.Var{varOf("v", vecOf(1))}, 0, "v"}, dimCall{e, e, sizedVars(9, 3), 3, "v8"}, dimCall{e, e, append(plainVars()[:1], plainVars()[0]), 3, "v"})
	}
	for range 300 {
		n := r.Intn(impl.MaxLen + 1)
		vars := chanceVars(r, n)
		a, b := chanceBalanced(r, vars, r.Intn(5)), chanceExpr(r, 9, 4)
		list = append(list, dimCall{a, b, vars, n, "v"}, dimCall{spoiledExpr(r, a), b, spoiledVars(r, vars), n, "x"})
	}
	for name, call := range dimCalls() {
		for _, c := range list {
			checkDimMemory(t, name, call, c)
		}
	}
}

// Variables may share their powers, and a formula's kids the same list: what is told shares neither.
func TestPowersShareNoMemoryWhereArgumentsDo(t *testing.T) {
	shared := []int{1, -1, 0, 5, 5}
	dim := impl.Vec{Den: 1, At: shared[:3]}
	vars := []impl.Var{varOf("v", dim), varOf("w", dim), varOf("u", dim)}
	twins := []impl.Expr{eVar("v"), eVar("v")}
	formulas := []impl.Expr{eVar("v"), eVar("u"), eNeg(eVar("w")), eTwo("+", eVar("v"), eVar("w")), eTwo("-", eVar("v"), eVar("v")), ePow(eVar("v"), 1, 1), eTwo("*", eVar("v"), eNum("1")), {Kind: impl.EAdd, Kids: twins}, {Kind: impl.EMul, Kids: twins}, {Kind: impl.ENeg, Kids: twins[:1]}, {Kind: impl.ESub, Kids: []impl.Expr{{Kind: impl.EAdd, Kids: twins}, {Kind: impl.EAdd, Kids: twins}}}}
	for _, e := range formulas {
		got, code := impl.DimOf(e, vars, 3)
		if code != impl.DmOk || meets([]span{spanOf(got.At)}, []span{spanOf(shared)}) {
			t.Errorf("DimOf of %v: %d, or it shares memory", e, code)
		}
		for i := range vecRoom(got) {
			vecRoom(got)[i] = 99
		}
		if !slices.Equal(shared, []int{1, -1, 0, 5, 5}) {
			t.Fatalf("DimOf of %v: what is told is the variables' own", e)
		}
		again, _ := impl.DimOf(e, vars, 3)
		if values, _ := dimByWords(e, vars, 3); !sameValues(vecValues(again), values) {
			t.Errorf("DimOf of %v hangs on an earlier answer: %v", e, again)
		}
	}
	if !sameExpr(twins[0], eVar("v")) || !sameExpr(twins[1], eVar("v")) {
		t.Error("the kids are written into")
	}
}
