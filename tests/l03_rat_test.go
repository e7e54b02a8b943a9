package tests

import (
	"math"
	"math/big"
	"math/rand"
	"slices"
	"strconv"
	"strings"
	"testing"

	"loop.example/g00676/impl"
)

func sameRat(a impl.Rat, b impl.Rat) bool {
	return sameBig(a.Num, b.Num) && sameBig(a.Den, b.Den)
}

func isZeroRat(r impl.Rat) bool {
	return sameRat(r, impl.Rat{})
}

func ratOfInts(num int, den int) impl.Rat {
	return impl.Rat{Num: impl.FromInt(num), Den: impl.FromInt(den)}
}

// ratOracle is the fraction as the library has it; Den isn't 0.
func ratOracle(r impl.Rat) *big.Rat {
	return new(big.Rat).SetFrac(oracle(r.Num), oracle(r.Den))
}

// fromRatOracle is the fraction of that value; it is right but for MaxLimbs.
func fromRatOracle(n *big.Rat) impl.Rat {
	return impl.Rat{Num: fromOracle(n.Num()), Den: fromOracle(n.Denom())}
}

func fitsRatOracle(n *big.Rat) bool {
	return fitsOracle(n.Num()) && fitsOracle(n.Denom())
}

func needRat(t *testing.T, s string) impl.Rat {
	t.Helper()
	r, ok := impl.ReadRat(s)
	if !ok {
		t.Fatalf("%q is no fraction", s)
	}
	return r
}

// needRatOf reads a fraction whose text may be longer than MaxDigits.
func needRatOf(t *testing.T, num *big.Int, den *big.Int) impl.Rat {
	t.Helper()
	whole := new(big.Rat).SetFrac(num, den)
	if !fitsRatOracle(whole) {
		t.Fatalf("%s is too large", whole)
	}
	return fromRatOracle(whole)
}

// wrongRats are not right, each for a reason of its own.
func wrongRats() []impl.Rat {
	list := []impl.Rat{
		{}, ratOfInts(1, 0), ratOfInts(-1, 0), ratOfInts(0, 0), ratOfInts(7, 0),
		ratOfInts(1, -1), ratOfInts(1, -2), ratOfInts(-1, -2), ratOfInts(0, -1), ratOfInts(3, -3),
		ratOfInts(2, 4), ratOfInts(-2, 4), ratOfInts(6, 3), ratOfInts(2, 2), ratOfInts(-5, 5), ratOfInts(15, 35), ratOfInts(math.MaxInt, math.MaxInt),
		ratOfInts(0, 2), ratOfInts(0, 3), ratOfInts(0, math.MaxInt),
		{Num: fromOracle(twoTo(1279)), Den: fromOracle(twoTo(1279))}, {Num: fromOracle(twoTo(1279)), Den: impl.FromInt(2)}, {Num: impl.FromInt(-2), Den: fromOracle(twoTo(1279))},
		{Den: bigOfLimbs(false, manyLimbs(impl.MaxLimbs, ones)...)},
	}
	for _, x := range wrongBigs() {
		list = append(list, impl.Rat{Num: x, Den: impl.FromInt(1)}, impl.Rat{Num: impl.FromInt(1), Den: x}, impl.Rat{Num: impl.FromInt(-3), Den: x}, impl.Rat{Den: x}, impl.Rat{Num: x, Den: x}, impl.Rat{Num: x})
	}
	return list
}

// greatest is the greatest right Big as the library has it.
func greatest() *big.Int {
	return new(big.Int).Sub(twoTo(32*impl.MaxLimbs), big.NewInt(1))
}

// edgeRats are right: noughts, ones, little ones, and ones of just MaxLimbs Limbs above, below, or both.
func edgeRats() []impl.Rat {
	list := []impl.Rat{{Num: impl.Big{Limbs: []uint32{}}, Den: impl.FromInt(1)}}
	add := func(num *big.Int, den *big.Int) {
		if whole := new(big.Rat).SetFrac(num, den); fitsRatOracle(whole) {
			list = append(list, fromRatOracle(whole), fromRatOracle(whole.Neg(whole)))
		}
	}
	for num := int64(0); num < 7; num++ {
		for _, den := range []int64{1, 2, 3, 4, 6} {
			add(big.NewInt(num), big.NewInt(den))
		}
	}
	most := greatest()
	less := new(big.Int).Sub(most, big.NewInt(1))
	for _, n := range []*big.Int{big.NewInt(math.MaxInt64), twoTo(32), twoTo(64), twoTo(640), twoTo(1279), less, most} {
		for _, m := range []*big.Int{big.NewInt(1), big.NewInt(2), big.NewInt(3), big.NewInt(ones), twoTo(639), new(big.Int).Add(twoTo(640), big.NewInt(1)), twoTo(1279), less, most} {
			add(n, m)
			add(m, n)
		}
	}
	return list
}

func chanceRat(r *rand.Rand, most int) impl.Rat {
	for {
		if den := oracle(chanceBig(r, most)); den.Sign() != 0 {
			return fromRatOracle(new(big.Rat).SetFrac(oracle(chanceBig(r, most)), den))
		}
	}
}

// ratPairs are all edges with each other, and chance ones: little ones, great ones, and such as shorten each other.
func ratPairs() [][2]impl.Rat {
	var list [][2]impl.Rat
	edges := edgeRats()
	for i, a := range edges {
		for j, b := range edges {
			if (i+j)%3 == 0 || i < 30 && j < 30 {
				list = append(list, [2]impl.Rat{a, b})
			}
		}
	}
	r := rand.New(rand.NewSource(31))
	for range 1500 {
		a, b := chanceRat(r, 3), chanceRat(r, 2)
		list = append(list, [2]impl.Rat{a, b}, [2]impl.Rat{ratOfInts(r.Intn(19)-9, 1), b})
		list = append(list, [2]impl.Rat{a, fromRatOracle(new(big.Rat).Mul(ratOracle(a), big.NewRat(int64(r.Intn(9)+1), int64(r.Intn(9)-10))))})
	}
	for range 150 {
		a, b := chanceRat(r, impl.MaxLimbs), chanceRat(r, impl.MaxLimbs)
		list = append(list, [2]impl.Rat{a, b}, [2]impl.Rat{a, a}, [2]impl.Rat{chanceRat(r, impl.MaxLimbs/2), chanceRat(r, impl.MaxLimbs/2)})
	}
	return list
}

// tellsRat holds an answer with a flag against the library's: refused where it is too large.
func tellsRat(t *testing.T, name string, given any, got impl.Rat, ok bool, want *big.Rat) {
	t.Helper()
	if !fitsRatOracle(want) {
		if ok || !isZeroRat(got) {
			t.Errorf("%s of %v is too large, but told: %v %v", name, given, got, ok)
		}
		return
	}
	if !ok || !impl.RatOk(got) || !sameRat(got, fromRatOracle(want)) {
		t.Errorf("%s of %v: %v %v, wanted %s", name, given, got, ok, want)
	}
}

func refusesRat(t *testing.T, name string, given any, got impl.Rat, ok bool) {
	t.Helper()
	if ok || !isZeroRat(got) {
		t.Errorf("%s of %v is to be refused, but told: %v %v", name, given, got, ok)
	}
}

func TestRatsThatAreRight(t *testing.T) {
	for _, r := range edgeRats() {
		if !impl.RatOk(r) {
			t.Errorf("%v is right", r)
		}
	}
	for _, r := range []impl.Rat{ratOfInts(0, 1), ratOfInts(1, 1), ratOfInts(-1, 1), ratOfInts(-9, 4), ratOfInts(35, 6), {Num: bigOfLimbs(true, manyLimbs(impl.MaxLimbs, ones)...), Den: fromOracle(twoTo(1279))}} {
		if !impl.RatOk(r) {
			t.Errorf("%v is right", r)
		}
	}
	for _, r := range wrongRats() {
		if impl.RatOk(r) {
			t.Errorf("%v isn't right", r)
		}
	}
}

func TestRatsOfLittleNumbersHaveOneForm(t *testing.T) {
	forms := map[string]impl.Rat{}
	for num := -24; num <= 24; num++ {
		for den := -24; den <= 24; den++ {
			r, ok := impl.MakeRat(impl.FromInt(num), impl.FromInt(den))
			if den == 0 {
				refusesRat(t, "MakeRat", num, r, ok)
				continue
			}
			want := big.NewRat(int64(num), int64(den))
			tellsRat(t, "MakeRat", []int{num, den}, r, ok, want)
			if before, seen := forms[want.String()]; seen && !sameRat(before, r) {
				t.Errorf("%s has two forms: %v and %v", want, before, r)
			}
			forms[want.String()] = r
			if impl.RatOk(ratOfInts(num, den)) != (den > 0 && sameRat(r, ratOfInts(num, den))) {
				t.Errorf("%d/%d is right just where it is its one form", num, den)
			}
		}
	}
}

func TestMakeRatAtEdges(t *testing.T) {
	cases := []struct {
		num, den int
		want     string
	}{
		{4, 6, "2/3"}, {-4, 6, "-2/3"}, {4, -6, "-2/3"}, {-4, -6, "2/3"}, {0, 5, "0"}, {0, -5, "0"}, {6, 3, "2"}, {6, -3, "-2"}, {-6, -3, "2"},
		{math.MinInt, math.MinInt, "1"}, {math.MinInt, -1, "9223372036854775808"}, {1, math.MinInt, "-1/9223372036854775808"}, {math.MaxInt, math.MinInt, "-9223372036854775807/9223372036854775808"},
	}
	for _, c := range cases {
		r, ok := impl.MakeRat(impl.FromInt(c.num), impl.FromInt(c.den))
		if !ok || !impl.RatOk(r) || impl.RatText(r) != c.want {
			t.Errorf("MakeRat of %d and %d: %v %v, wanted %s", c.num, c.den, r, ok, c.want)
		}
	}
}

func TestMakeRatOfMany(t *testing.T) {
	edges := edgeBigs()
	for i, a := range edges {
		for j, b := range edges {
			if (i+j)%3 != 0 {
				continue
			}
			r, ok := impl.MakeRat(a, b)
			if len(b.Limbs) == 0 {
				refusesRat(t, "MakeRat", a, r, ok)
				continue
			}
			tellsRat(t, "MakeRat", []impl.Big{a, b}, r, ok, new(big.Rat).SetFrac(oracle(a), oracle(b)))
		}
	}
	for _, p := range gcdPairs() {
		if r, ok := impl.MakeRat(p[0], p[1]); len(p[1].Limbs) > 0 {
			tellsRat(t, "MakeRat", p, r, ok, new(big.Rat).SetFrac(oracle(p[0]), oracle(p[1])))
		}
	}
}

func TestRatsCompared(t *testing.T) {
	for _, p := range ratPairs() {
		got, want := impl.RatCmp(p[0], p[1]), ratOracle(p[0]).Cmp(ratOracle(p[1]))
		if got != want || impl.RatCmp(p[1], p[0]) != -want {
			t.Errorf("RatCmp of %v: %d, wanted %d", p, got, want)
		}
		if sameRat(p[0], p[1]) != (got == 0) {
			t.Errorf("%v are one fraction just where they are alike", p)
		}
	}
	// Their products are beyond MaxLimbs, and part in the last place alone.
	most := greatest()
	for _, d := range []int64{1, 2} {
		less := new(big.Int).Sub(most, big.NewInt(d))
		least := new(big.Int).Sub(less, big.NewInt(d))
		a, b := needRatOf(t, less, most), needRatOf(t, least, less)
		if impl.RatCmp(a, b) != 1 || impl.RatCmp(b, a) != -1 || impl.RatCmp(a, a) != 0 {
			t.Errorf("great ones that lie close: %d %d", impl.RatCmp(a, b), impl.RatCmp(b, a))
		}
	}
}

func TestSumsDifferencesProductsQuotientsOfRats(t *testing.T) {
	for _, p := range ratPairs() {
		a, b := ratOracle(p[0]), ratOracle(p[1])
		x, ok := impl.RatAdd(p[0], p[1])
		tellsRat(t, "RatAdd", p, x, ok, new(big.Rat).Add(a, b))
		x, ok = impl.RatSub(p[0], p[1])
		tellsRat(t, "RatSub", p, x, ok, new(big.Rat).Sub(a, b))
		x, ok = impl.RatMul(p[0], p[1])
		tellsRat(t, "RatMul", p, x, ok, new(big.Rat).Mul(a, b))
		x, ok = impl.RatQuo(p[0], p[1])
		if b.Sign() == 0 {
			refusesRat(t, "RatQuo", p, x, ok)
			continue
		}
		tellsRat(t, "RatQuo", p, x, ok, new(big.Rat).Quo(a, b))
	}
}

func TestLittleRatsReckoned(t *testing.T) {
	cases := []struct{ a, b, sum, difference, product, quotient string }{
		{"1/6", "-3/4", "-7/12", "11/12", "-1/8", "-2/9"},
		{"1/2", "1/2", "1", "0", "1/4", "1"},
		{"-1/2", "1/2", "0", "-1", "-1/4", "-1"},
		{"-1/2", "-1/2", "-1", "0", "1/4", "1"},
		{"0", "-5/3", "-5/3", "5/3", "0", "0"},
		{"7", "-3", "4", "10", "-21", "-7/3"},
		{"-7", "-3", "-10", "-4", "21", "7/3"},
		{"1/6", "1/10", "4/15", "1/15", "1/60", "5/3"},
	}
	for _, c := range cases {
		a, b := needRat(t, c.a), needRat(t, c.b)
		sum, _ := impl.RatAdd(a, b)
		difference, _ := impl.RatSub(a, b)
		product, _ := impl.RatMul(a, b)
		quotient, _ := impl.RatQuo(a, b)
		got := []string{impl.RatText(sum), impl.RatText(difference), impl.RatText(product), impl.RatText(quotient)}
		if want := []string{c.sum, c.difference, c.product, c.quotient}; !slices.Equal(got, want) {
			t.Errorf("%s and %s: %v, wanted %v", c.a, c.b, got, want)
		}
	}
}

func TestWhatIsDividedIsMultipliedBack(t *testing.T) {
	for _, p := range ratPairs() {
		if q, ok := impl.RatQuo(p[0], p[1]); ok {
			if back, ok := impl.RatMul(q, p[1]); !ok || !sameRat(back, p[0]) {
				t.Errorf("%v divided and multiplied back: %v %v", p, back, ok)
			}
		}
		if len(p[1].Num.Limbs) == 0 {
			continue
		}
		if m, ok := impl.RatMul(p[0], p[1]); ok {
			if back, ok := impl.RatQuo(m, p[1]); !ok || !sameRat(back, p[0]) {
				t.Errorf("%v multiplied and divided back: %v %v", p, back, ok)
			}
		}
		if s, ok := impl.RatAdd(p[0], p[1]); ok {
			if back, ok := impl.RatSub(s, p[1]); !ok || !sameRat(back, p[0]) {
				t.Errorf("%v added and taken back: %v %v", p, back, ok)
			}
		}
	}
}

// ratCase is one reckoning at the limit, with the answer's flag.
type ratCase struct {
	name string
	call func(impl.Rat, impl.Rat) (impl.Rat, bool)
	a, b impl.Rat
	ok   bool
}

func ratCasesAtMaxLimbs(t *testing.T) []ratCase {
	one, two := big.NewInt(1), big.NewInt(2)
	most, top, half := greatest(), twoTo(1279), twoTo(640)
	less := new(big.Int).Sub(most, one)
	beside := new(big.Int).Sub(half, one) // half without one: it divides most, and half times it has MaxLimbs Limbs
	rat := func(num *big.Int, den *big.Int) impl.Rat { return needRatOf(t, num, den) }
	neg := func(n *big.Int) *big.Int { return new(big.Int).Neg(n) }
	return []ratCase{
		{"Num of MaxLimbs", impl.RatAdd, rat(less, one), rat(one, one), true},
		{"Num of one more", impl.RatAdd, rat(most, one), rat(one, one), false},
		{"Num below 0 of MaxLimbs", impl.RatSub, rat(neg(less), one), rat(one, one), true},
		{"Num below 0 of one more", impl.RatSub, rat(neg(most), one), rat(one, one), false},
		{"Num of one more, by half", impl.RatAdd, rat(most, one), rat(one, two), false},
		{"Num shortened to MaxLimbs", impl.RatAdd, rat(most, two), rat(one, two), true},
		{"Num shortened to MaxLimbs, taken", impl.RatSub, rat(most, two), rat(neg(one), two), true},
		{"Num and Den shortened", impl.RatAdd, rat(most, top), rat(one, top), true},
		{"all taken away", impl.RatSub, rat(most, top), rat(most, top), true},
		{"Den of MaxLimbs", impl.RatMul, rat(one, half), rat(one, beside), true},
		{"Den of one more", impl.RatMul, rat(one, half), rat(one, half), false},
		{"sum with a Den of MaxLimbs", impl.RatAdd, rat(one, half), rat(one, beside), true},
		{"sum with a Den of one more", impl.RatAdd, rat(one, half), rat(one, new(big.Int).Add(half, one)), false},
		{"difference with a Den of MaxLimbs", impl.RatSub, rat(one, half), rat(one, beside), true},
		{"difference with a Den of one more", impl.RatSub, rat(one, half), rat(one, new(big.Int).Add(half, one)), false},
		{"Num of MaxLimbs, product", impl.RatMul, rat(half, one), rat(beside, one), true},
		{"Num of one more, product", impl.RatMul, rat(half, one), rat(half, one), false},
		{"product shortened to 1", impl.RatMul, rat(most, top), rat(top, most), true},
		{"product shortened to MaxLimbs", impl.RatMul, rat(most, top), rat(top, one), true},
		{"product shortened below 0", impl.RatMul, rat(neg(most), less), rat(less, top), true},
		{"product not to be shortened", impl.RatMul, rat(most, top), rat(less, new(big.Int).Add(top, one)), false},
		{"Num of MaxLimbs, quotient", impl.RatQuo, rat(half, one), rat(one, beside), true},
		{"Num of one more, quotient", impl.RatQuo, rat(half, one), rat(one, half), false},
		{"Den of MaxLimbs, quotient", impl.RatQuo, rat(one, half), rat(neg(beside), one), true},
		{"Den of one more, quotient", impl.RatQuo, rat(one, half), rat(neg(half), one), false},
		{"quotient shortened to 1", impl.RatQuo, rat(most, top), rat(most, top), true},
		{"quotient shortened to MaxLimbs", impl.RatQuo, rat(most, less), rat(top, less), true},
		{"quotient of one beyond", impl.RatQuo, rat(most, one), rat(one, two), false},
	}
}

func TestRatsAtMaxLimbs(t *testing.T) {
	for _, c := range ratCasesAtMaxLimbs(t) {
		got, ok := c.call(c.a, c.b)
		if ok != c.ok || ok && !impl.RatOk(got) || !ok && !isZeroRat(got) {
			t.Errorf("%s: %v %v, wanted %v", c.name, got, ok, c.ok)
		}
	}
	half, beside := needRatOf(t, twoTo(640), big.NewInt(1)), needRatOf(t, new(big.Int).Sub(twoTo(640), big.NewInt(1)), big.NewInt(1))
	if m, ok := impl.RatMul(half, beside); !ok || len(m.Num.Limbs) != impl.MaxLimbs {
		t.Errorf("a Num of just MaxLimbs Limbs: %v %v", m, ok)
	}
	if m, ok := impl.RatQuo(ratOfInts(1, 1), half); !ok || len(m.Den.Limbs) != 21 {
		t.Errorf("1 divided by it: %v %v", m, ok)
	}
}

func TestRatQuoByNought(t *testing.T) {
	for _, a := range append(edgeRats(), wrongRats()...) {
		for _, b := range []impl.Rat{ratOfInts(0, 1), {Num: impl.Big{Limbs: []uint32{}}, Den: impl.FromInt(1)}} {
			got, ok := impl.RatQuo(a, b)
			refusesRat(t, "RatQuo by 0", a, got, ok)
		}
	}
}

// powerOf is r to the n as the library has it, or nil where that is too large by far; r isn't 0 where n is below.
func powerOf(r *big.Rat, n int) *big.Rat {
	if n < 0 {
		return powerOf(new(big.Rat).Inv(r), -n)
	}
	if (max(r.Num().BitLen(), r.Denom().BitLen())-1)*n > 33*impl.MaxLimbs {
		return nil
	}
	e := big.NewInt(int64(n))
	return new(big.Rat).SetFrac(new(big.Int).Exp(r.Num(), e, nil), new(big.Int).Exp(r.Denom(), e, nil))
}

func checkPower(t *testing.T, x impl.Rat, n int) {
	t.Helper()
	got, ok := impl.RatPow(x, n)
	if len(x.Num.Limbs) == 0 && n < 0 {
		refusesRat(t, "RatPow", n, got, ok)
	} else if want := powerOf(ratOracle(x), n); want != nil {
		tellsRat(t, "RatPow", []any{x, n}, got, ok, want)
	} else {
		refusesRat(t, "RatPow", []any{x, n}, got, ok)
	}
}

func TestPowersOfRats(t *testing.T) {
	r := rand.New(rand.NewSource(32))
	list := edgeRats()
	for range 30 {
		list = append(list, chanceRat(r, 2), chanceRat(r, 9))
	}
	for _, x := range list {
		for _, n := range []int{0, 1, 2, 3, 4, 5, 7, 8, 40, 63, 64, 255, impl.MaxPower - 1, impl.MaxPower} {
			checkPower(t, x, n)
			checkPower(t, x, -n)
		}
	}
}

func TestPowersOfRatsAtEdges(t *testing.T) {
	cases := []struct {
		of   string
		n    int
		want string // the empty text: refused
	}{
		{"0", 0, "1"}, {"0", 1, "0"}, {"0", impl.MaxPower, "0"}, {"0", impl.MaxPower + 1, ""}, {"0", -1, ""}, {"0", -impl.MaxPower, ""}, {"0", -impl.MaxPower - 1, ""},
		{"1", impl.MaxPower, "1"}, {"1", -impl.MaxPower, "1"}, {"1", impl.MaxPower + 1, ""}, {"1", -impl.MaxPower - 1, ""}, {"1", math.MaxInt, ""}, {"1", math.MinInt, ""},
		{"-1", impl.MaxPower, "1"}, {"-1", impl.MaxPower - 1, "-1"}, {"-1", -impl.MaxPower, "1"}, {"-1", 1 - impl.MaxPower, "-1"}, {"-1", impl.MaxPower + 1, ""}, {"-1", -impl.MaxPower - 1, ""},
		{"-3/4", -3, "-64/27"}, {"-3/4", -2, "16/9"}, {"-3/4", -1, "-4/3"}, {"-3/4", 0, "1"}, {"-3/4", 2, "9/16"}, {"-3/4", 3, "-27/64"},
		{"-5", -1, "-1/5"}, {"-5", -2, "1/25"}, {"1/5", -3, "125"}, {"-1/5", -3, "-125"},
		{"-5/7", math.MinInt, ""}, {"5/7", math.MaxInt, ""}, {"5/7", math.MinInt + 1, ""},
		{"4", 640, ""}, {"1/4", 640, ""}, {"1/4", -640, ""}, {"4", -640, ""},
	}
	for _, c := range cases {
		got, ok := impl.RatPow(needRat(t, c.of), c.n)
		if ok != (c.want != "") || impl.RatText(got) != c.want || !ok && !isZeroRat(got) {
			t.Errorf("%s to the %d: %v %v, wanted %q", c.of, c.n, got, ok, c.want)
		}
	}
	// 2 to the 1000 isn't too large; 4 to the 639 and the like aren't either.
	for of, n := range map[string]int{"2": impl.MaxPower, "1/2": -impl.MaxPower, "-2": impl.MaxPower, "4": 639, "1/4": -639, "-1/4": 639, "-4": -639} {
		checkPower(t, needRat(t, of), n)
		if _, ok := impl.RatPow(needRat(t, of), n); !ok {
			t.Errorf("%s to the %d is right", of, n)
		}
	}
}

func TestRootsOfPowersOfRats(t *testing.T) {
	r := rand.New(rand.NewSource(33))
	list := []impl.Rat{ratOfInts(1, 1), ratOfInts(2, 1), ratOfInts(1, 2), ratOfInts(2, 3), ratOfInts(10, 7), ratOfInts(1, ones), needRatOf(t, greatest(), twoTo(1279))}
	for range 30 {
		list = append(list, chanceRat(r, 2))
	}
	for _, x := range list {
		for k := 1; k <= impl.MaxRoot; k++ {
			size := x
			size.Num.Neg = false
			if len(size.Num.Limbs) == 0 {
				continue
			}
			p, ok := impl.RatPow(size, k)
			if !ok {
				continue
			}
			if got, ok := impl.RatRoot(p, k); !ok || !sameRat(got, size) {
				t.Errorf("the root by %d of %v: %v %v, wanted %v", k, p, got, ok, size)
			}
			checkNoRoots(t, p, k)
		}
	}
}

// checkNoRoots asks for roots next to the power p by k: with 1 more or less above or below, or with its sign turned.
func checkNoRoots(t *testing.T, p impl.Rat, k int) {
	t.Helper()
	turned := impl.Rat{Num: impl.Big{Neg: true, Limbs: p.Num.Limbs}, Den: p.Den}
	got, ok := impl.RatRoot(turned, k)
	refusesRat(t, "RatRoot", turned, got, ok)
	for _, d := range []int64{-1, 1} {
		num, den := oracle(p.Num), oracle(p.Den)
		for _, beside := range []*big.Rat{new(big.Rat).SetFrac(new(big.Int).Add(num, big.NewInt(d)), den), new(big.Rat).SetFrac(num, new(big.Int).Add(den, big.NewInt(2+d)))} {
			if !fitsRatOracle(beside) {
				continue
			}
			got, ok := impl.RatRoot(fromRatOracle(beside), k)
			if want := rootOf(beside, k); want == nil {
				refusesRat(t, "RatRoot", beside, got, ok)
			} else if !ok || !sameRat(got, fromRatOracle(want)) {
				t.Errorf("the root by %d of %v: %v %v, wanted %v", k, beside, got, ok, want)
			}
		}
	}
}

// rootOf is the fraction above 0 whose power by k is r, or nil; it is found by halves, bit for bit.
func rootOf(r *big.Rat, k int) *big.Rat {
	whole := func(n *big.Int) *big.Int {
		root, e := new(big.Int), big.NewInt(int64(k))
		for i := n.BitLen() / k; i >= 0; i-- {
			root.SetBit(root, i, 1)
			if new(big.Int).Exp(root, e, nil).Cmp(n) > 0 {
				root.SetBit(root, i, 0)
			}
		}
		if new(big.Int).Exp(root, e, nil).Cmp(n) != 0 {
			return nil
		}
		return root
	}
	if r.Sign() <= 0 {
		return nil
	}
	num, den := whole(r.Num()), whole(r.Denom())
	if num == nil || den == nil {
		return nil
	}
	return new(big.Rat).SetFrac(num, den)
}

func TestRootsOfRatsAtEdges(t *testing.T) {
	cases := []struct {
		of   string
		k    int
		want string // the empty text: refused
	}{
		{"8/27", 3, "2/3"}, {"8/27", 1, "8/27"}, {"8/27", 2, ""}, {"4/9", 2, "2/3"}, {"4/3", 2, ""}, {"3/4", 2, ""}, {"2", 2, ""}, {"1/2", 2, ""}, {"9/4", 4, ""},
		{"0", 1, ""}, {"0", 2, ""}, {"0", impl.MaxRoot, ""}, {"-4", 2, ""}, {"-8", 3, ""}, {"-1", 1, ""}, {"-1", impl.MaxRoot, ""}, {"-8/27", 3, ""},
		{"1", 1, "1"}, {"1", impl.MaxRoot, "1"}, {"1", impl.MaxRoot + 1, ""}, {"1", 0, ""}, {"1", -1, ""}, {"1", math.MaxInt, ""}, {"1", math.MinInt, ""}, {"7/5", 0, ""}, {"7/5", 1, "7/5"}, {"-7/5", 1, ""},
		{"18446744073709551616", impl.MaxRoot, "2"}, {"1/18446744073709551616", impl.MaxRoot, "1/2"}, {"18446744073709551617", impl.MaxRoot, ""}, {"1/18446744073709551615", impl.MaxRoot, ""},
	}
	for _, c := range cases {
		got, ok := impl.RatRoot(needRat(t, c.of), c.k)
		if ok != (c.want != "") || impl.RatText(got) != c.want || !ok && !isZeroRat(got) {
			t.Errorf("the root by %d of %s: %v %v, wanted %q", c.k, c.of, got, ok, c.want)
		}
	}
	for _, x := range edgeRats() {
		got, ok := impl.RatRoot(x, 1)
		if above := len(x.Num.Limbs) > 0 && !x.Num.Neg; ok != above || ok && !sameRat(got, x) || !ok && !isZeroRat(got) {
			t.Errorf("the root by 1 of %v: %v %v", x, got, ok)
		}
	}
}

func TestFloors(t *testing.T) {
	for of, want := range map[string]string{"7/2": "3", "-7/2": "-4", "1/2": "0", "-1/2": "-1", "0": "0", "3": "3", "-3": "-3", "1/1000000": "0", "-1/1000000": "-1", "8/3": "2", "-8/3": "-3", "18446744073709551615/4294967296": "4294967295", "-18446744073709551615/4294967296": "-4294967296"} {
		if got := impl.Floor(needRat(t, of)); !impl.BigOk(got) || impl.IntText(got) != want {
			t.Errorf("Floor of %s: %v, wanted %s", of, got, want)
		}
	}
	r := rand.New(rand.NewSource(34))
	list := edgeRats()
	for range 500 {
		list = append(list, chanceRat(r, 3), chanceRat(r, impl.MaxLimbs))
	}
	for _, x := range list {
		// The library's Div rounds down where the divisor is above 0.
		want := new(big.Int).Div(oracle(x.Num), oracle(x.Den))
		if got := impl.Floor(x); !sameBig(got, fromOracle(want)) || !impl.BigOk(got) {
			t.Errorf("Floor of %v: %v, wanted %s", x, got, want)
		}
	}
	for _, x := range wrongRats() {
		if got := impl.Floor(x); !isZeroBig(got) {
			t.Errorf("Floor of %v, which isn't right: %v", x, got)
		}
	}
}

func TestTextsOfRats(t *testing.T) {
	cases := map[string]impl.Rat{"0": ratOfInts(0, 1), "1": ratOfInts(1, 1), "-1": ratOfInts(-1, 1), "1/2": ratOfInts(1, 2), "-1/2": ratOfInts(-1, 2), "-7/3": ratOfInts(-7, 3), "10": ratOfInts(10, 1), "-1000000000": ratOfInts(-1000000000, 1), "1/1000000000": ratOfInts(1, 1000000000), "9223372036854775807/2": ratOfInts(math.MaxInt, 2)}
	for want, r := range cases {
		if got := impl.RatText(r); got != want {
			t.Errorf("RatText of %v: %q, wanted %q", r, got, want)
		}
	}
	for _, r := range edgeRats() {
		if got, want := impl.RatText(r), ratOracle(r).RatString(); got != want {
			t.Errorf("RatText of %v: %q, wanted %q", r, got, want)
		}
	}
	for _, r := range wrongRats() {
		if got := impl.RatText(r); got != "" {
			t.Errorf("RatText of %v, which isn't right: %q", r, got)
		}
	}
}

func TestRatsComeBackFromTheirTexts(t *testing.T) {
	r := rand.New(rand.NewSource(35))
	list := edgeRats()
	for n := 1; n <= impl.MaxLimbs; n++ {
		for range 20 {
			list = append(list, chanceRat(r, n))
		}
	}
	short, long := 0, 0
	for _, x := range list {
		text := impl.RatText(x)
		got, ok := impl.ReadRat(text)
		if len(text) > impl.MaxDigits {
			long++
			refusesRat(t, "ReadRat", text, got, ok)
			continue
		}
		short++
		if !ok || !sameRat(got, x) || impl.RatText(got) != text {
			t.Errorf("%q comes back as %v %v", text, got, ok)
		}
	}
	if short < 100 || long < 100 {
		t.Errorf("too few of a kind: %d short, %d long", short, long)
	}
}

func TestFormsOfTextsOfRats(t *testing.T) {
	cases := map[string]string{
		"0": "0", "-0": "0", "00": "0", "-00": "0", "7": "7", "007": "7", "-007": "-7", "42": "42", "-42": "-42",
		"6/4": "3/2", "-6/4": "-3/2", "-4/2": "-2", "0/5": "0", "-0/5": "0", "4/02": "2", "04/002": "2", "1/1": "1", "1/001": "1", "0/1": "0", "00/10": "0", "35/0049": "5/7", "1/10": "1/10",
		"1.5": "3/2", "1.50": "3/2", "-1.5": "-3/2", "0.5": "1/2", "00.50": "1/2", "0.0": "0", "-0.0": "0", "-0.000": "0", "10.25": "41/4", "0.001": "1/1000", "3.0": "3", "123.456": "15432/125",
		"1e0": "1", "1e-0": "1", "1e00": "1", "1e-000": "1", "1e1": "10", "1e-1": "1/10", "12e2": "1200", "1e-2": "1/100", "1e02": "100", "1e002": "100", "1e-002": "1/100", "-12e2": "-1200", "-1e-1": "-1/10", "0e5": "0", "-0e-5": "0", "25e-2": "1/4", "1e010": "10000000000",
		"1.5e1": "15", "1.5e0": "3/2", "1.5e-1": "3/20", "1.5e3": "1500", "-2.5e-3": "-1/400", "2.50e1": "25", "0.0e-7": "0", "-0.0e7": "0", "0.125e3": "125", "0.125e4": "1250", "0.125e2": "25/2",
		"0e999": "0", "0e-999": "0", "-0e999": "0", "-0e-999": "0", "0.0e-999": "0", "-0.00e999": "0",
	}
	for s, want := range cases {
		got, ok := impl.ReadRat(s)
		if !ok || !impl.RatOk(got) || impl.RatText(got) != want {
			t.Errorf("ReadRat of %q: %v %v, wanted %s", s, got, ok, want)
		}
	}
}

func TestTextsThatAreNoRat(t *testing.T) {
	list := []string{
		"", "-", "+", "+1", "+0", "--1", "-+1", "1-", "- 1", " ", " 1", "1 ", "1\t", "\n1", "1\n", "1 2", "1_0", "a", "0x1", "1a", "e", "e1", "-e1", "/", ".", "-.", "-/",
		"1/", "/1", "-/1", "1//2", "1/2/3", "1/-2", "1/+2", "-1/-2", "1 /2", "1/ 2", "1/0", "1/00", "0/0", "-1/0", "1/-0", "1/2 ", "1/a", "1/0000000000000000",
		"1.", ".5", "-.5", "1..5", "1.5.5", "1.-5", "1. 5", "1,5", ".", "-1.", "1.e2", ".5e2", "1.e", "1.a",
		"1.5/2", "1/2.5", "1.5/2.5", "1/2.", "1./2", "1/.5", "1/2e3", "1e2/3", "1e2/1", "1/1e0",
		"1e", "1e-", "1e+", "1e+2", "1e--2", "1e 2", "1e2 ", "1e1000", "1e0000", "1e0001", "1e-1000", "1e-0001", "0e1000", "0e0000", "1e2e3", "1e2.5", "1e.5", "1e2-", "1E2", "1E", "1.5E2", "1.5e", "1.5e-", "1.5e1000", "1ee2", "1e-e2",
		"1/2\x00", "\x001", "1\x80", "\xff", "1.5\xc2\xb2", "\u0661", "1/\u0662", "\uff11", "1\u2044" + "2", "\u22121", "inf", "NaN", "1e٣",
	}
	for _, s := range append(list, oddTexts()...) {
		got, ok := impl.ReadRat(s)
		if want, fine := readByWords(s); fine {
			tellsRat(t, "ReadRat", s, got, ok, want)
			continue
		}
		refusesRat(t, "ReadRat", s, got, ok)
	}
	for _, s := range list {
		if got, ok := impl.ReadRat(s); ok {
			t.Errorf("%q is of no form, but told: %v", s, got)
		}
	}
}

// readByWords reads as the document's words say it, byte by byte; false where s is of none of the forms.
func readByWords(s string) (*big.Rat, bool) {
	at := 0
	take := func(sign byte) bool {
		if at < len(s) && s[at] == sign {
			at++
			return true
		}
		return false
	}
	digits := func() string {
		from := at
		for at < len(s) && s[at] >= '0' && s[at] <= '9' {
			at++
		}
		return s[from:at]
	}
	number := func(digits string) *big.Int {
		n, _ := new(big.Int).SetString("0"+digits, 10)
		return n
	}
	neg := take('-')
	first := digits()
	if len(s) > impl.MaxDigits || first == "" {
		return nil, false
	}
	value := new(big.Rat).SetInt(number(first))
	if take('/') {
		below := digits()
		if strings.Trim(below, "0") == "" {
			return nil, false
		}
		value.SetFrac(number(first), number(below))
	} else {
		if take('.') {
			behind := digits()
			if behind == "" {
				return nil, false
			}
			value.SetFrac(number(first+behind), tenTo(len(behind)))
		}
		if take('e') {
			down := take('-')
			places := digits()
			if len(places) < 1 || len(places) > 3 {
				return nil, false
			}
			n, _ := strconv.Atoi(places)
			ten := new(big.Rat).SetInt(tenTo(n))
			if down {
				ten.Inv(ten)
			}
			value.Mul(value, ten)
		}
	}
	if neg {
		value.Neg(value)
	}
	return value, at == len(s)
}

func checkReadRat(t *testing.T, s string) {
	t.Helper()
	got, ok := impl.ReadRat(s)
	if want, fine := readByWords(s); fine {
		tellsRat(t, "ReadRat", s, got, ok, want)
	} else {
		refusesRat(t, "ReadRat", s, got, ok)
	}
}

func TestAllShortTextsOfRats(t *testing.T) {
	const signs = "01-/.e "
	list := []string{""}
	for from := 0; len(list[from]) < 5; from++ {
		for _, sign := range signs {
			list = append(list, list[from]+string(sign))
		}
	}
	for _, s := range list {
		checkReadRat(t, s)
	}
}

func TestChanceTextsOfRats(t *testing.T) {
	r := rand.New(rand.NewSource(36))
	for range 20000 {
		checkReadRat(t, mixedText(r, "0001259-/.e", 9))
	}
	part := func(most int) string { return mixedText(r, "0123456789", most) }
	forms := []func() string{
		func() string { return part(30) + "/" + part(30) },
		func() string { return part(40) + "." + part(40) + "e" + part(4) },
		func() string { return "-" + part(40) + "." + part(40) + "e-" + part(3) },
		func() string { return part(390) + "e-" + part(3) },
		func() string { return "-" + part(200) + "/" + part(200) },
		func() string { return part(10) + "." + part(390) },
	}
	for i := range 1800 {
		checkReadRat(t, forms[i%len(forms)]())
	}
}

func TestGreatExponentsOfRats(t *testing.T) {
	zeros := func(n int) string { return strings.Repeat("0", n) }
	// The greatest power of ten that is right is that of 385.
	right := map[string]*big.Rat{
		"1e385":                     new(big.Rat).SetInt(tenTo(385)),
		"-1e385":                    new(big.Rat).SetInt(new(big.Int).Neg(tenTo(385))),
		"1e-385":                    new(big.Rat).SetFrac(big.NewInt(1), tenTo(385)),
		"-1e-385":                   new(big.Rat).SetFrac(big.NewInt(-1), tenTo(385)),
		"0e999":                     new(big.Rat),
		"-0e-999":                   new(big.Rat),
		"0." + zeros(396):           new(big.Rat),
		"0." + zeros(390) + "1e391": big.NewRat(1, 1),
		"0." + zeros(390) + "1e394": big.NewRat(1000, 1),
		"0." + zeros(390) + "1e776": new(big.Rat).SetInt(tenTo(385)),
		"1" + zeros(390) + "e-391":  big.NewRat(1, 10),
		"1" + zeros(394) + "e-395":  big.NewRat(1, 10),
		"1" + zeros(394) + "e-779":  new(big.Rat).SetFrac(big.NewInt(1), tenTo(385)),
		"5e-385":                    new(big.Rat).SetFrac(big.NewInt(5), tenTo(385)),
		"3.5e385":                   nil, "2.0e385": new(big.Rat).SetInt(new(big.Int).Mul(big.NewInt(2), tenTo(385))),
		"1e386": nil, "-1e386": nil, "1e-386": nil, "-1e-386": nil, "1e999": nil, "-1e999": nil, "1e-999": nil, "-1e-999": nil, "9e-999": nil, "0.1e999": nil, "1.5e-999": nil, "0.1e-385": nil, "1" + zeros(394) + "e-999": nil, "1" + zeros(394) + "e-780": nil, "0." + zeros(390) + "1e777": nil, "0." + zeros(390) + "1e999": nil,
	}
	for s, want := range right {
		got, ok := impl.ReadRat(s)
		if want == nil {
			refusesRat(t, "ReadRat", s, got, ok)
		} else if tellsRat(t, "ReadRat", s, got, ok, want); !ok {
			t.Errorf("%q is right", s)
		}
		checkReadRat(t, s)
	}
}

// With digits that 2 and 5 go into many times, a power of ten that is too large by far is shortened.
func TestExponentsThatAreShortened(t *testing.T) {
	digits := new(big.Int).Mul(tenTo(300), twoTo(300)).String()
	right, wrong := 0, 0
	for places := range 1000 {
		for _, s := range []string{digits + "e-" + strconv.Itoa(places), "-0.0" + digits + "e" + strconv.Itoa(places)} {
			checkReadRat(t, s)
			if _, ok := impl.ReadRat(s); ok {
				right++
			} else {
				wrong++
			}
		}
	}
	if right < 500 || wrong < 500 {
		t.Errorf("too few of a kind: %d right, %d wrong", right, wrong)
	}
}

func TestTextsOfRatsWithAStrokeAtMaxLimbs(t *testing.T) {
	most, beyond := greatest().String(), twoTo(32*impl.MaxLimbs).String()
	twice := new(big.Int).Lsh(greatest(), 1).String()
	for s, right := range map[string]bool{
		most + "/1": true, "-" + most + "/2": true, "1/" + most: true, "-1/" + most: true, most + "/01": true, twice + "/2": true, "2/" + twice: true, "-" + twice + "/2": true, beyond + "/2": true, "6/" + beyond: true, "-2/" + beyond: true,
		beyond: false, "-" + beyond: false, beyond + "/1": false, "-" + beyond + "/3": false, "1/" + beyond: false, "-1/" + beyond: false, twice + "/1": false, "1/" + twice: false, twice + "/5": true, "7/" + twice: false, twice + "/7": false, "0/" + beyond: true, "-0/" + twice: true,
	} {
		checkReadRat(t, s)
		if got, ok := impl.ReadRat(s); ok != right {
			t.Errorf("ReadRat of %q: %v %v, wanted %v", s, got, ok, right)
		}
	}
}

func TestTextsOfRatsAtMaxDigits(t *testing.T) {
	zeros := func(n int) string { return strings.Repeat("0", n) }
	// Each is of n bytes.
	forms := map[string]func(n int) string{
		"7":      func(n int) string { return zeros(n-1) + "7" },
		"-7":     func(n int) string { return "-" + zeros(n-2) + "7" },
		"7/3":    func(n int) string { return zeros(n-3) + "7/3" },
		"-7/3":   func(n int) string { return "-7/" + zeros(n-4) + "3" },
		"1":      func(n int) string { return "1." + zeros(n-2) },
		"3/2000": func(n int) string { return zeros(n-6) + "1.5e-3" },
		"0":      func(n int) string { return "0/" + strings.Repeat("9", n-2) },
		"-1":     func(n int) string { return "-1" + zeros(n-7) + "e-" + strconv.Itoa(n-7) },
		"100000": func(n int) string { return zeros(n%2) + "1" + zeros(n/2+1) + "/1" + zeros(n/2-4) },
	}
	for want, form := range forms {
		s := form(impl.MaxDigits)
		if got, ok := impl.ReadRat(s); !ok || impl.RatText(got) != want || len(s) != impl.MaxDigits {
			t.Errorf("ReadRat of %q of %d bytes: %v %v, wanted %s", s, len(s), got, ok, want)
		}
		for _, n := range []int{impl.MaxDigits + 1, impl.MaxDigits + 2, 999} {
			s := form(n)
			got, ok := impl.ReadRat(s)
			refusesRat(t, "ReadRat of "+strconv.Itoa(len(s))+" bytes", s, got, ok)
		}
	}
	// Both are right, but only the one's text is of MaxDigits bytes; the other one's is of one more.
	nines := new(big.Int).Sub(big.NewInt(1), tenTo(199))
	fits, over := needRatOf(t, nines, tenTo(198)), needRatOf(t, nines, tenTo(199))
	if text := impl.RatText(fits); len(text) != impl.MaxDigits || !sameRat(needRat(t, text), fits) {
		t.Errorf("%q of %d bytes", text, len(text))
	}
	text := impl.RatText(over)
	got, ok := impl.ReadRat(text)
	if refusesRat(t, "ReadRat", text, got, ok); len(text) != impl.MaxDigits+1 {
		t.Errorf("%q of %d bytes", text, len(text))
	}
}

// ratCalls are all that tell a fraction, with a second argument where they take one.
func ratCalls() map[string]func(a impl.Rat, b impl.Rat) (impl.Rat, bool) {
	calls := map[string]func(a impl.Rat, b impl.Rat) (impl.Rat, bool){
		"RatAdd": impl.RatAdd, "RatSub": impl.RatSub, "RatMul": impl.RatMul, "RatQuo": impl.RatQuo,
		"MakeRat": func(a impl.Rat, b impl.Rat) (impl.Rat, bool) { return impl.MakeRat(a.Num, b.Den) },
		"Floor":   func(a impl.Rat, _ impl.Rat) (impl.Rat, bool) { return impl.Rat{Num: impl.Floor(a)}, true },
	}
	for _, n := range []int{-2, -1, 0, 1, 2} {
		calls["RatPow "+strconv.Itoa(n)] = func(a impl.Rat, _ impl.Rat) (impl.Rat, bool) { return impl.RatPow(a, n) }
		calls["RatRoot "+strconv.Itoa(n)] = func(a impl.Rat, _ impl.Rat) (impl.Rat, bool) { return impl.RatRoot(a, n) }
	}
	return calls
}

func TestWrongRatsAreRefused(t *testing.T) {
	right := []impl.Rat{ratOfInts(0, 1), ratOfInts(1, 1), ratOfInts(-5, 3), needRatOf(t, greatest(), twoTo(1279))}
	for _, wrong := range wrongRats() {
		for _, other := range append(right, wrong) {
			for name, call := range map[string]func(a impl.Rat, b impl.Rat) (impl.Rat, bool){"RatAdd": impl.RatAdd, "RatSub": impl.RatSub, "RatMul": impl.RatMul, "RatQuo": impl.RatQuo} {
				got, ok := call(wrong, other)
				refusesRat(t, name, []impl.Rat{wrong, other}, got, ok)
				got, ok = call(other, wrong)
				refusesRat(t, name, []impl.Rat{other, wrong}, got, ok)
			}
			if impl.RatCmp(wrong, other) != 2 || impl.RatCmp(other, wrong) != 2 {
				t.Errorf("RatCmp of %v and %v: %d %d", wrong, other, impl.RatCmp(wrong, other), impl.RatCmp(other, wrong))
			}
		}
		for _, n := range []int{0, 1, 2, -1, 3, impl.MaxRoot, impl.MaxPower, -impl.MaxPower} {
			got, ok := impl.RatPow(wrong, n)
			refusesRat(t, "RatPow", []any{wrong, n}, got, ok)
			got, ok = impl.RatRoot(wrong, n)
			refusesRat(t, "RatRoot", []any{wrong, n}, got, ok)
		}
	}
	for _, wrong := range wrongBigs() {
		for _, other := range []impl.Big{impl.FromInt(1), impl.FromInt(-6), {}, wrong} {
			got, ok := impl.MakeRat(wrong, other)
			refusesRat(t, "MakeRat", []impl.Big{wrong, other}, got, ok)
			got, ok = impl.MakeRat(other, wrong)
			refusesRat(t, "MakeRat", []impl.Big{other, wrong}, got, ok)
		}
	}
}

func roomyRat(r impl.Rat, limb uint32) impl.Rat {
	return impl.Rat{Num: roomy(r.Num, limb), Den: roomy(r.Den, limb)}
}

// ratRooms are the four lists behind two fractions, with their spare room.
func ratRooms(list ...impl.Rat) [][]uint32 {
	var rooms [][]uint32
	for _, r := range list {
		rooms = append(rooms, wholeRoom(r.Num), wholeRoom(r.Den))
	}
	return rooms
}

func copiedRooms(rooms [][]uint32) [][]uint32 {
	var kept [][]uint32
	for _, room := range rooms {
		kept = append(kept, slices.Clone(room))
	}
	return kept
}

func scribble(list []uint32) {
	for i := range list {
		list[i] ^= 0x55555555
	}
}

func checkRatMemory(t *testing.T, name string, call func(a impl.Rat, b impl.Rat) (impl.Rat, bool), a impl.Rat, b impl.Rat) {
	t.Helper()
	kept := copiedRooms(ratRooms(a, b))
	first, _ := call(a, b)
	again, _ := call(a, b)
	same := func() bool { return slices.EqualFunc(ratRooms(a, b), kept, slices.Equal[[]uint32]) }
	if !same() {
		t.Fatalf("%s writes into %v or %v", name, a, b)
	}
	scribble(wholeRoom(first.Num))
	if !sameBig(first.Den, again.Den) {
		t.Fatalf("%s of %v and %v: Num and Den share memory", name, a, b)
	}
	scribble(wholeRoom(first.Den))
	if !same() {
		t.Fatalf("%s of %v and %v shares memory with them", name, a, b)
	}
	if last, _ := call(a, b); !sameRat(last, again) {
		t.Fatalf("%s of %v and %v hangs on an earlier answer", name, a, b)
	}
}

func TestRatsAreNeitherKeptNorWrittenInto(t *testing.T) {
	list := []impl.Rat{ratOfInts(0, 1), ratOfInts(1, 1), ratOfInts(-1, 1), ratOfInts(4, 9), ratOfInts(-6, 5), ratOfInts(math.MaxInt, 4), ratOfInts(25, 1), ratOfInts(1, 36), needRatOf(t, greatest(), twoTo(1278)), needRatOf(t, twoTo(64), big.NewInt(81))}
	list = append(list, wrongRats()[:24]...)
	for _, x := range wrongBigs() {
		list = append(list, impl.Rat{Num: x, Den: x})
	}
	for name, call := range ratCalls() {
		for _, a := range list {
			for _, b := range list[:20] {
				checkRatMemory(t, name, call, roomyRat(a, 0), roomyRat(b, ones))
				checkRatMemory(t, name, call, roomyRat(b, 7), roomyRat(a, 0))
			}
			// The two arguments are one and the same.
			x := roomyRat(a, 7)
			got, ok := call(x, x)
			want, wantOk := call(a, roomyRat(a, 0))
			if ok != wantOk || !sameRat(got, want) {
				t.Errorf("%s of %v and itself: %v %v, wanted %v", name, a, got, ok, want)
			}
			checkRatMemory(t, name, call, x, x)
		}
	}
}

func TestRatsThatAreOnlyAskedAreNotWrittenInto(t *testing.T) {
	for _, a := range append(edgeRats()[:40], wrongRats()...) {
		x, y := roomyRat(a, ones), roomyRat(ratOfInts(-7, 3), ones)
		kept := copiedRooms(ratRooms(x, y))
		impl.RatOk(x)
		impl.RatText(x)
		impl.RatCmp(x, y)
		impl.RatCmp(y, x)
		impl.Floor(x)
		if !slices.EqualFunc(ratRooms(x, y), kept, slices.Equal[[]uint32]) {
			t.Fatalf("%v is written into", a)
		}
	}
}

func TestReadRatTellsNewMemory(t *testing.T) {
	for _, s := range []string{"0", "-0", "1", "6/4", "1/1", "-2.5e-3", "12e2", "1e385", "1e-385", "18446744073709551616/18446744073709551617", "5/5"} {
		first, again := needRat(t, s), needRat(t, s)
		scribble(wholeRoom(first.Num))
		if !sameBig(first.Den, again.Den) {
			t.Errorf("ReadRat of %q: Num and Den share memory", s)
		}
		scribble(wholeRoom(first.Den))
		if !sameRat(needRat(t, s), again) {
			t.Errorf("ReadRat of %q hangs on an earlier answer", s)
		}
	}
}

func TestReadRatAnswersAnything(t *testing.T) {
	for _, s := range sampleTexts() {
		checkReadRat(t, s)
	}
	r := rand.New(rand.NewSource(37))
	for range 2000 {
		checkReadRat(t, anyText(r))
	}
	for _, s := range []string{strings.Repeat("9", 1<<20), strings.Repeat("-", 1<<20), "1/" + strings.Repeat("9", 1<<20), "1e" + strings.Repeat("9", 1<<20), "0." + strings.Repeat("0", 1<<20)} {
		got, ok := impl.ReadRat(s)
		refusesRat(t, "ReadRat of a text of "+strconv.Itoa(len(s))+" bytes", s[:9], got, ok)
	}
}
