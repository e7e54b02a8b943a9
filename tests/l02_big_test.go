package tests

import (
	"math"
	"math/big"
	"math/rand"
	"slices"
	"strconv"
	"strings"
	"testing"

	"loop.example/g00676/impl"
)

const ones = math.MaxUint32

func bigOfLimbs(neg bool, limbs ...uint32) impl.Big {
	return impl.Big{Neg: neg, Limbs: limbs}
}

func manyLimbs(n int, limb uint32) []uint32 {
	return slices.Repeat([]uint32{limb}, n)
}

// wrongBigs are not right, each for a reason of its own.
func wrongBigs() []impl.Big {
	return []impl.Big{
		{Neg: true}, {Neg: true, Limbs: []uint32{}}, bigOfLimbs(false, 0), bigOfLimbs(true, 0), bigOfLimbs(false, 1, 0), bigOfLimbs(true, 1, 0), bigOfLimbs(false, 0, 0), bigOfLimbs(false, ones, ones, 0),
		bigOfLimbs(false, append(manyLimbs(impl.MaxLimbs-1, 5), 0)...), bigOfLimbs(false, manyLimbs(impl.MaxLimbs, 0)...),
		bigOfLimbs(false, manyLimbs(impl.MaxLimbs+1, 1)...), bigOfLimbs(true, manyLimbs(impl.MaxLimbs+1, 1)...), bigOfLimbs(false, manyLimbs(impl.MaxLimbs+1, 0)...),
		bigOfLimbs(false, append(manyLimbs(impl.MaxLimbs, 0), 1)...), bigOfLimbs(false, append(manyLimbs(impl.MaxLimbs, 1), 0)...), bigOfLimbs(true, manyLimbs(1000, ones)...),
	}
}

func sameBig(a impl.Big, b impl.Big) bool {
	return a.Neg == b.Neg && slices.Equal(a.Limbs, b.Limbs)
}

func isZeroBig(x impl.Big) bool {
	return sameBig(x, impl.Big{})
}

// oracle is the number as the library has it.
func oracle(x impl.Big) *big.Int {
	whole := new(big.Int)
	for i := len(x.Limbs) - 1; i >= 0; i-- {
		whole.Lsh(whole, 32).Or(whole, big.NewInt(int64(x.Limbs[i])))
	}
	if x.Neg {
		whole.Neg(whole)
	}
	return whole
}

// fromOracle is the number of that value; it is right but for MaxLimbs.
func fromOracle(n *big.Int) impl.Big {
	x := impl.Big{Neg: n.Sign() < 0}
	low := big.NewInt(ones)
	for rest := new(big.Int).Abs(n); rest.Sign() != 0; rest.Rsh(rest, 32) {
		x.Limbs = append(x.Limbs, uint32(new(big.Int).And(rest, low).Uint64()))
	}
	return x
}

func fitsOracle(n *big.Int) bool {
	return n.BitLen() <= 32*impl.MaxLimbs
}

func twoTo(n int) *big.Int {
	return new(big.Int).Lsh(big.NewInt(1), uint(n))
}

func tenTo(n int) *big.Int {
	return new(big.Int).Exp(big.NewInt(10), big.NewInt(int64(n)), nil)
}

// edgeBigs are right: noughts, ones, all that is next to a Limb's end, and Limbs that are all ones or 0.
func edgeBigs() []impl.Big {
	var list []impl.Big
	add := func(n *big.Int) {
		if fitsOracle(n) {
			list = append(list, fromOracle(n), fromOracle(new(big.Int).Neg(n)))
		}
	}
	list = append(list, impl.Big{}, impl.Big{Limbs: []uint32{}})
	for _, n := range []int64{1, 2, 3, 4, 6, 7, 9, 10, 12, 18, 1000000007, math.MaxInt32, math.MaxInt64} {
		add(big.NewInt(n))
	}
	for _, k := range []int{31, 32, 33, 63, 64, 65, 96, 128, 640, 1248, 1279, 1280} {
		for _, d := range []int64{-2, -1, 0, 1, 2} {
			add(new(big.Int).Add(twoTo(k), big.NewInt(d)))
		}
	}
	for _, limbs := range [][]uint32{{0, 1}, {0, 0, ones}, {ones, 0, ones}, {0, ones, 0, 1}, {ones, ones, 1}, {0, 0x80000000}, {ones, 0x7fffffff}, {1, 0, 0x80000000}} {
		add(oracle(bigOfLimbs(false, limbs...)))
	}
	return list
}

func chanceBig(r *rand.Rand, most int) impl.Big {
	x := impl.Big{Limbs: make([]uint32, r.Intn(most+1))}
	for i := range x.Limbs {
		switch r.Intn(4) {
		case 0:
			x.Limbs[i] = []uint32{0, 1, 2, 0x7fffffff, 0x80000000, 0x80000001, ones - 1, ones}[r.Intn(8)]
		default:
			x.Limbs[i] = r.Uint32() >> r.Intn(32)
		}
	}
	return fromOracle(oracle(impl.Big{Neg: r.Intn(2) == 0, Limbs: x.Limbs}))
}

// edgyBig has only such Limbs as guesses in a division go wrong at.
func edgyBig(r *rand.Rand, n int) impl.Big {
	limbs := make([]uint32, n)
	for i := range limbs {
		limbs[i] = []uint32{0, 1, 0x7fffffff, 0x80000000, 0x80000001, ones - 1, ones}[r.Intn(7)]
	}
	return fromOracle(oracle(impl.Big{Neg: r.Intn(2) == 0, Limbs: limbs}))
}

// bigPairs are all edges with each other, and chance ones.
func bigPairs() [][2]impl.Big {
	var list [][2]impl.Big
	edges := edgeBigs()
	for _, a := range edges {
		for _, b := range edges {
			list = append(list, [2]impl.Big{a, b})
		}
	}
	r := rand.New(rand.NewSource(21))
	for range 4000 {
		list = append(list, [2]impl.Big{chanceBig(r, impl.MaxLimbs), chanceBig(r, impl.MaxLimbs)}, [2]impl.Big{chanceBig(r, 6), chanceBig(r, 3)})
		list = append(list, [2]impl.Big{edgyBig(r, 2+r.Intn(7)), edgyBig(r, 1+r.Intn(4))})
	}
	return list
}

func needBig(t *testing.T, s string) impl.Big {
	t.Helper()
	x, ok := impl.ReadBig(s)
	if !ok {
		t.Fatalf("%q is no number", s)
	}
	return x
}

// tellsRight holds an answer with a flag against the library's: refused where it is too large.
func tellsRight(t *testing.T, name string, a any, b any, got impl.Big, ok bool, want *big.Int) {
	t.Helper()
	if !fitsOracle(want) {
		if ok || !isZeroBig(got) {
			t.Errorf("%s of %v and %v is too large, but told: %v %v", name, a, b, got, ok)
		}
		return
	}
	if !ok || !impl.BigOk(got) || !sameBig(got, fromOracle(want)) {
		t.Errorf("%s of %v and %v: %v %v, wanted %s", name, a, b, got, ok, want)
	}
}

func TestConstantsOfBigs(t *testing.T) {
	if impl.MaxLimbs != 40 || impl.MaxDigits != 400 || impl.MaxPower != 1000 || impl.MaxRoot != 64 {
		t.Error(impl.MaxLimbs, impl.MaxDigits, impl.MaxPower, impl.MaxRoot)
	}
}

func TestBigsThatAreRight(t *testing.T) {
	for _, x := range append(edgeBigs(), bigOfLimbs(false, manyLimbs(impl.MaxLimbs, ones)...), bigOfLimbs(true, manyLimbs(impl.MaxLimbs, 1)...), bigOfLimbs(true, append(manyLimbs(impl.MaxLimbs-1, 0), 1)...), bigOfLimbs(false, 0, 0, 1)) {
		if !impl.BigOk(x) {
			t.Errorf("%v is right", x)
		}
	}
	for _, x := range wrongBigs() {
		if impl.BigOk(x) {
			t.Errorf("%v isn't right", x)
		}
	}
}

func TestIntsThereAndBack(t *testing.T) {
	r := rand.New(rand.NewSource(22))
	list := []int{0, 1, -1, 2, ones - 1, ones, ones + 1, ones + 2, -ones, -ones - 1, -ones - 2, math.MaxInt, math.MaxInt - 1, math.MinInt, math.MinInt + 1, 1 << 62, -1 << 62}
	for range 3000 {
		list = append(list, int(r.Uint64())>>r.Intn(64))
	}
	for _, n := range list {
		x := impl.FromInt(n)
		if !impl.BigOk(x) || !sameBig(x, fromOracle(big.NewInt(int64(n)))) {
			t.Errorf("FromInt of %d: %v", n, x)
		}
		if back, ok := impl.ToInt(x); !ok || back != n {
			t.Errorf("%d comes back as %d %v", n, back, ok)
		}
	}
}

func TestNumbersThatAreNoInt(t *testing.T) {
	for _, s := range []string{"9223372036854775808", "-9223372036854775809", "9223372036854775809", "18446744073709551615", "-18446744073709551615", "18446744073709551616", "-18446744073709551616", "18446744073709551617", "79228162514264337593543950336"} {
		if n, ok := impl.ToInt(needBig(t, s)); ok || n != 0 {
			t.Errorf("ToInt of %s: %d %v", s, n, ok)
		}
	}
	for _, x := range edgeBigs() {
		n, ok := impl.ToInt(x)
		if whole := oracle(x); ok != whole.IsInt64() || ok && int64(n) != whole.Int64() || !ok && n != 0 {
			t.Errorf("ToInt of %v: %d %v", x, n, ok)
		}
	}
}

func TestBigsCompared(t *testing.T) {
	for _, p := range bigPairs() {
		if got, want := impl.Cmp(p[0], p[1]), oracle(p[0]).Cmp(oracle(p[1])); got != want {
			t.Errorf("Cmp of %v: %d, wanted %d", p, got, want)
		}
		if sameBig(p[0], p[1]) != (impl.Cmp(p[0], p[1]) == 0) {
			t.Errorf("%v are one number just where they are alike", p)
		}
	}
}

func TestSumsDifferencesProducts(t *testing.T) {
	for _, p := range bigPairs() {
		a, b := oracle(p[0]), oracle(p[1])
		x, ok := impl.Add(p[0], p[1])
		tellsRight(t, "Add", p[0], p[1], x, ok, new(big.Int).Add(a, b))
		x, ok = impl.Sub(p[0], p[1])
		tellsRight(t, "Sub", p[0], p[1], x, ok, new(big.Int).Sub(a, b))
		x, ok = impl.Mul(p[0], p[1])
		tellsRight(t, "Mul", p[0], p[1], x, ok, new(big.Int).Mul(a, b))
	}
}

func TestSumsAndDifferencesTakeOneAnotherBack(t *testing.T) {
	for _, p := range bigPairs() {
		if s, ok := impl.Add(p[0], p[1]); ok {
			if back, ok := impl.Sub(s, p[1]); !ok || !sameBig(back, p[0]) {
				t.Errorf("%v: taken back it is %v", p, back)
			}
		}
		if d, ok := impl.Sub(p[0], p[1]); ok {
			if back, ok := impl.Add(d, p[1]); !ok || !sameBig(back, p[0]) {
				t.Errorf("%v: added back it is %v", p, back)
			}
		}
	}
}

func TestCarriesThroughLimbsOfOnes(t *testing.T) {
	one := impl.FromInt(1)
	for n := 1; n < impl.MaxLimbs; n++ {
		low := bigOfLimbs(false, manyLimbs(n, ones)...)
		high := bigOfLimbs(false, append(manyLimbs(n, 0), 1)...)
		if s, ok := impl.Add(low, one); !ok || !sameBig(s, high) {
			t.Errorf("%d Limbs of ones and 1: %v", n, s)
		}
		if d, ok := impl.Sub(high, one); !ok || !sameBig(d, low) {
			t.Errorf("1 from 2 to the %d: %v", 32*n, d)
		}
		if s, ok := impl.Sub(bigOfLimbs(true, low.Limbs...), one); !ok || !sameBig(s, bigOfLimbs(true, high.Limbs...)) {
			t.Errorf("%d Limbs of ones below 0, without 1: %v", n, s)
		}
		if d, ok := impl.Sub(low, low); !ok || !isZeroBig(d) {
			t.Errorf("%d Limbs of ones from themselves: %v", n, d)
		}
		q, rest, ok := impl.DivMod(high, low)
		if !ok || !sameBig(q, one) || !sameBig(rest, one) {
			t.Errorf("2 to the %d by itself without 1: %v %v", 32*n, q, rest)
		}
	}
}

func TestAnswersAtMaxLimbs(t *testing.T) {
	most := bigOfLimbs(false, manyLimbs(impl.MaxLimbs, ones)...)
	least := bigOfLimbs(true, manyLimbs(impl.MaxLimbs, ones)...)
	one, two := impl.FromInt(1), impl.FromInt(2)
	half := bigOfLimbs(false, append(manyLimbs(impl.MaxLimbs-1, 0), 0x80000000)...)
	below := fromOracle(new(big.Int).Sub(twoTo(1279), big.NewInt(1)))
	for _, c := range []struct {
		name string
		call func(a impl.Big, b impl.Big) (impl.Big, bool)
		a, b impl.Big
		ok   bool
	}{
		{"Add", impl.Add, most, one, false}, {"Add", impl.Add, most, impl.FromInt(-1), true}, {"Add", impl.Add, most, impl.Big{}, true}, {"Add", impl.Add, least, impl.FromInt(-1), false}, {"Add", impl.Add, most, least, true}, {"Add", impl.Add, most, most, false},
		{"Add", impl.Add, half, half, false}, {"Add", impl.Add, half, below, true}, {"Sub", impl.Sub, most, impl.FromInt(-1), false}, {"Sub", impl.Sub, least, one, false}, {"Sub", impl.Sub, least, impl.FromInt(-1), true}, {"Sub", impl.Sub, most, least, false}, {"Sub", impl.Sub, most, most, true},
		{"Mul", impl.Mul, half, two, false}, {"Mul", impl.Mul, below, two, true}, {"Mul", impl.Mul, below, impl.FromInt(-2), true}, {"Mul", impl.Mul, most, impl.FromInt(-1), true}, {"Mul", impl.Mul, most, two, false}, {"Mul", impl.Mul, most, most, false}, {"Mul", impl.Mul, most, impl.Big{}, true},
		{"Mul", impl.Mul, fromOracle(twoTo(640)), fromOracle(twoTo(640)), false}, {"Mul", impl.Mul, fromOracle(twoTo(640)), fromOracle(twoTo(639)), true},
	} {
		if x, ok := c.call(c.a, c.b); ok != c.ok || !impl.BigOk(x) || !ok && !isZeroBig(x) {
			t.Errorf("%s of %v and %v: %v %v", c.name, c.a, c.b, x, ok)
		}
	}
}

func TestQuotientsAndRests(t *testing.T) {
	for _, p := range bigPairs() {
		q, rest, ok := impl.DivMod(p[0], p[1])
		a, b := oracle(p[0]), oracle(p[1])
		if b.Sign() == 0 {
			if ok || !isZeroBig(q) || !isZeroBig(rest) {
				t.Errorf("DivMod of %v by 0: %v %v %v", p[0], q, rest, ok)
			}
			continue
		}
		wantQ, wantR := new(big.Int).DivMod(a, b, new(big.Int))
		if !ok || !sameBig(q, fromOracle(wantQ)) || !sameBig(rest, fromOracle(wantR)) {
			t.Errorf("DivMod of %v: %v %v %v, wanted %s and %s", p, q, rest, ok, wantQ, wantR)
		}
		whole := new(big.Int).Mul(oracle(q), b)
		if whole.Add(whole, oracle(rest)).Cmp(a) != 0 || rest.Neg || oracle(rest).CmpAbs(b) >= 0 {
			t.Errorf("DivMod of %v: %v and %v don't make it", p, q, rest)
		}
	}
}

func TestRestsOfLittleNumbers(t *testing.T) {
	for a := -30; a <= 30; a++ {
		for b := -12; b <= 12; b++ {
			if b == 0 {
				continue
			}
			x, y, ok := impl.DivMod(impl.FromInt(a), impl.FromInt(b))
			q, _ := impl.ToInt(x)
			rest, _ := impl.ToInt(y)
			if !ok || q*b+rest != a || rest < 0 || rest >= max(b, -b) {
				t.Errorf("DivMod of %d and %d: %d %d %v", a, b, q, rest, ok)
			}
		}
	}
}

// A limb of a quotient that is guessed from the ends alone may be too great by 1 and by 2.
func TestDivisionsWhoseGuessesAreTooGreat(t *testing.T) {
	r := rand.New(rand.NewSource(23))
	for range 30000 {
		n := 2 + r.Intn(4)
		a, b := edgyBig(r, n+r.Intn(5)), edgyBig(r, n)
		if isZeroBig(b) {
			continue
		}
		q, rest, ok := impl.DivMod(a, b)
		wantQ, wantR := new(big.Int).DivMod(oracle(a), oracle(b), new(big.Int))
		if !ok || !sameBig(q, fromOracle(wantQ)) || !sameBig(rest, fromOracle(wantR)) {
			t.Errorf("DivMod of %v and %v: %v %v %v", a, b, q, rest, ok)
		}
	}
}

// gcdPairs have something in common more often than bigPairs.
func gcdPairs() [][2]impl.Big {
	var list [][2]impl.Big
	edges := edgeBigs()
	for i, a := range edges {
		for j, b := range edges {
			if (i+j)%3 == 0 || len(a.Limbs) < 4 && len(b.Limbs) < 4 {
				list = append(list, [2]impl.Big{a, b})
			}
		}
	}
	r := rand.New(rand.NewSource(24))
	for range 600 {
		f := oracle(chanceBig(r, 10))
		a, b := oracle(chanceBig(r, 30)), oracle(chanceBig(r, 1+r.Intn(30)))
		list = append(list, [2]impl.Big{fromOracle(a.Mul(a, f)), fromOracle(b.Mul(b, f))}, [2]impl.Big{fromOracle(a), fromOracle(f)}, [2]impl.Big{fromOracle(f), fromOracle(b)})
	}
	for a := -13; a <= 13; a++ {
		for b := -13; b <= 13; b++ {
			list = append(list, [2]impl.Big{impl.FromInt(a), impl.FromInt(b)})
		}
	}
	return list
}

func TestGreatestDivisors(t *testing.T) {
	for _, p := range gcdPairs() {
		g, ok := impl.GcdInt(p[0], p[1])
		want := new(big.Int).GCD(nil, nil, oracle(p[0]), oracle(p[1]))
		if !ok || !sameBig(g, fromOracle(want)) {
			t.Errorf("GcdInt of %v: %v %v, wanted %s", p, g, ok, want)
		}
	}
	if g, ok := impl.GcdInt(impl.Big{}, impl.Big{}); !ok || !isZeroBig(g) {
		t.Error("of noughts", g, ok)
	}
}

// checkBezout holds g, x and y against what the document says of them.
func checkBezout(t *testing.T, a impl.Big, b impl.Big) {
	t.Helper()
	g, x, y, ok := impl.Bezout(a, b)
	if !ok || !impl.BigOk(g) || !impl.BigOk(x) || !impl.BigOk(y) {
		t.Fatalf("Bezout of %v and %v: %v %v %v %v", a, b, g, x, y, ok)
	}
	want := new(big.Int).GCD(nil, nil, oracle(a), oracle(b))
	if oracle(g).Cmp(want) != 0 {
		t.Errorf("Bezout of %v and %v: g %v", a, b, g)
	}
	sum := new(big.Int).Mul(oracle(x), oracle(a))
	if sum.Add(sum, new(big.Int).Mul(oracle(y), oracle(b))).Cmp(want) != 0 {
		t.Errorf("Bezout of %v and %v: %v and %v don't make %v", a, b, x, y, g)
	}
	if len(b.Limbs) == 0 {
		if !isZeroBig(y) || oracle(x).Cmp(big.NewInt(int64(oracle(a).Sign()))) != 0 {
			t.Errorf("Bezout of %v and 0: %v %v", a, x, y)
		}
		return
	}
	span := new(big.Int).Quo(new(big.Int).Abs(oracle(b)), want)
	if x.Neg || oracle(x).Cmp(span) >= 0 {
		t.Errorf("Bezout of %v and %v: x %v isn't within 0 .. %s", a, b, x, span)
	}
}

func TestBezoutOfMany(t *testing.T) {
	for _, p := range gcdPairs() {
		if impl.BigOk(p[0]) && impl.BigOk(p[1]) {
			checkBezout(t, p[0], p[1])
		}
	}
	most := bigOfLimbs(false, manyLimbs(impl.MaxLimbs, ones)...)
	least := bigOfLimbs(true, manyLimbs(impl.MaxLimbs, ones)...)
	almost := bigOfLimbs(false, append([]uint32{ones - 1}, manyLimbs(impl.MaxLimbs-1, ones)...)...)
	for _, a := range []impl.Big{most, least, almost, impl.FromInt(1), impl.FromInt(-1), impl.FromInt(3), {}} {
		for _, b := range []impl.Big{most, least, almost, impl.FromInt(1), impl.FromInt(-1), impl.FromInt(3), {}} {
			checkBezout(t, a, b)
		}
	}
}

func TestBezoutAtEdges(t *testing.T) {
	for _, c := range [][5]int{
		{0, 0, 0, 0, 0}, {5, 0, 5, 1, 0}, {-5, 0, 5, -1, 0}, {0, 5, 5, 0, 1}, {0, -5, 5, 0, -1}, {1, 1, 1, 0, 1}, {1, -1, 1, 0, -1}, {-1, -1, 1, 0, -1}, {6, 3, 3, 0, 1}, {3, 6, 3, 1, 0}, {-3, 6, 3, 1, 1}, {3, -6, 3, 1, 0},
		{-12, 18, 6, 1, 1}, {12, 18, 6, 2, -1}, {12, -18, 6, 2, 1}, {7, 7, 7, 0, 1}, {-7, 7, 7, 0, 1}, {7, -7, 7, 0, -1}, {3, 5, 1, 2, -1}, {-3, 5, 1, 3, 2}, {3, -5, 1, 2, 1}, {-3, -5, 1, 3, -2},
	} {
		g, x, y, ok := impl.Bezout(impl.FromInt(c[0]), impl.FromInt(c[1]))
		if !ok || !sameBig(g, impl.FromInt(c[2])) || !sameBig(x, impl.FromInt(c[3])) || !sameBig(y, impl.FromInt(c[4])) {
			t.Errorf("Bezout of %d and %d: %s %s %s", c[0], c[1], impl.IntText(g), impl.IntText(x), impl.IntText(y))
		}
	}
}

func TestPowers(t *testing.T) {
	for _, x := range edgeBigs() {
		for _, n := range []int{0, 1, 2, 3, 4, 5, 7, 8, 19, 20, 39, 40, 41, 64, 100, 999, impl.MaxPower} {
			if len(x.Limbs) > 2 && n > 64 {
				n = 41
			}
			got, ok := impl.Power(x, n)
			tellsRight(t, "Power", x, n, got, ok, new(big.Int).Exp(oracle(x), big.NewInt(int64(n)), nil))
		}
	}
}

func TestPowersAtTheLimit(t *testing.T) {
	most := bigOfLimbs(false, manyLimbs(impl.MaxLimbs, ones)...)
	for _, c := range []struct {
		a  impl.Big
		n  int
		ok bool
	}{
		{impl.FromInt(2), 1000, true}, {impl.FromInt(-2), 999, true}, {impl.FromInt(3), 807, true}, {impl.FromInt(3), 808, false}, {impl.FromInt(4), 639, true}, {impl.FromInt(4), 640, false}, {impl.FromInt(-4), 639, true}, {impl.FromInt(-4), 640, false},
		{impl.FromInt(7), 455, true}, {impl.FromInt(7), 456, false}, {impl.FromInt(ones), 40, true}, {impl.FromInt(ones), 41, false}, {impl.FromInt(ones + 1), 39, true}, {impl.FromInt(ones + 1), 40, false}, {most, 0, true}, {most, 1, true}, {most, 2, false}, {most, impl.MaxPower, false},
		{impl.Big{}, 0, true}, {impl.Big{}, impl.MaxPower, true}, {impl.FromInt(1), impl.MaxPower, true}, {impl.FromInt(-1), impl.MaxPower, true}, {impl.FromInt(-1), impl.MaxPower - 1, true},
		{impl.FromInt(1), impl.MaxPower + 1, false}, {impl.FromInt(1), -1, false}, {impl.Big{}, -1, false}, {impl.Big{}, impl.MaxPower + 1, false}, {impl.FromInt(-1), math.MinInt, false}, {impl.FromInt(1), math.MaxInt, false}, {impl.FromInt(2), math.MinInt, false}, {impl.FromInt(0), math.MaxInt, false},
	} {
		x, ok := impl.Power(c.a, c.n)
		if ok != c.ok || !ok && !isZeroBig(x) {
			t.Errorf("Power of %v by %d: %v %v", c.a, c.n, x, ok)
		}
		if ok {
			tellsRight(t, "Power", c.a, c.n, x, ok, new(big.Int).Exp(oracle(c.a), big.NewInt(int64(c.n)), nil))
		}
	}
}

// checkRoot: the root's power isn't above x, the next one's is.
func checkRoot(t *testing.T, x impl.Big, k int) {
	t.Helper()
	root, exact := impl.RootInt(x, k)
	if !impl.BigOk(root) || root.Neg {
		t.Errorf("RootInt of %v by %d: %v", x, k, root)
	}
	by := big.NewInt(int64(k))
	low := new(big.Int).Exp(oracle(root), by, nil)
	next := new(big.Int).Add(oracle(root), big.NewInt(1))
	high := next.Exp(next, by, nil)
	if low.Cmp(oracle(x)) > 0 || high.Cmp(oracle(x)) <= 0 || exact != (low.Cmp(oracle(x)) == 0) {
		t.Errorf("RootInt of %v by %d: %v %v", x, k, root, exact)
	}
}

func TestRootsOfPowersAndNextToThem(t *testing.T) {
	r := rand.New(rand.NewSource(25))
	for k := 1; k <= impl.MaxRoot; k++ {
		bases := []*big.Int{big.NewInt(0), big.NewInt(1), big.NewInt(2), big.NewInt(3), big.NewInt(10), big.NewInt(ones), big.NewInt(ones + 1), twoTo(1280 / k), new(big.Int).Sub(twoTo(1280/k), big.NewInt(1))}
		for range 3 {
			bases = append(bases, new(big.Int).Rand(r, twoTo(1+1280/k)))
		}
		for _, base := range bases {
			power := new(big.Int).Exp(base, big.NewInt(int64(k)), nil)
			for _, d := range []int64{-2, -1, 0, 1, 2} {
				x := new(big.Int).Add(power, big.NewInt(d))
				if x.Sign() >= 0 && fitsOracle(x) {
					checkRoot(t, fromOracle(x), k)
				}
			}
		}
		checkRoot(t, bigOfLimbs(false, manyLimbs(impl.MaxLimbs, ones)...), k)
	}
}

func TestRootsOfMany(t *testing.T) {
	r := rand.New(rand.NewSource(26))
	for range 1500 {
		x := chanceBig(r, impl.MaxLimbs)
		x.Neg = false
		checkRoot(t, x, 1+r.Intn(impl.MaxRoot))
		checkRoot(t, x, 1+r.Intn(5))
		checkRoot(t, impl.FromInt(r.Intn(2000)), 1+r.Intn(8))
	}
}

func TestRootsThatAreRefused(t *testing.T) {
	for _, x := range []impl.Big{{}, impl.FromInt(1), impl.FromInt(64), impl.FromInt(-1), impl.FromInt(-8), bigOfLimbs(true, manyLimbs(impl.MaxLimbs, ones)...)} {
		for _, k := range []int{math.MinInt, -2, -1, 0, impl.MaxRoot + 1, impl.MaxRoot + 2, 1 << 32, math.MaxInt} {
			if root, ok := impl.RootInt(x, k); ok || !isZeroBig(root) {
				t.Errorf("RootInt of %v by %d: %v %v", x, k, root, ok)
			}
		}
		for _, k := range []int{1, 2, 3, 5, impl.MaxRoot} {
			if root, ok := impl.RootInt(x, k); x.Neg && (ok || !isZeroBig(root)) {
				t.Errorf("RootInt of %v by %d: %v %v", x, k, root, ok)
			}
		}
	}
}

func TestRootsAtEdges(t *testing.T) {
	for _, c := range []struct {
		x, k, root int
		exact      bool
	}{
		{0, 1, 0, true}, {0, 2, 0, true}, {0, 64, 0, true}, {1, 1, 1, true}, {1, 64, 1, true}, {2, 1, 2, true}, {2, 2, 1, false}, {3, 2, 1, false}, {4, 2, 2, true}, {5, 2, 2, false}, {8, 2, 2, false}, {9, 2, 3, true}, {80, 2, 8, false}, {26, 3, 2, false}, {27, 3, 3, true}, {28, 3, 3, false}, {math.MaxInt, 62, 2, false}, {math.MaxInt, 63, 1, false}, {math.MaxInt, 64, 1, false}, {math.MaxInt, 1, math.MaxInt, true},
	} {
		if root, exact := impl.RootInt(impl.FromInt(c.x), c.k); exact != c.exact || !sameBig(root, impl.FromInt(c.root)) {
			t.Errorf("RootInt of %d by %d: %s %v", c.x, c.k, impl.IntText(root), exact)
		}
	}
	if root, exact := impl.RootInt(fromOracle(twoTo(64)), 64); !exact || !sameBig(root, impl.FromInt(2)) {
		t.Error("of 2 to the 64 by 64", root, exact)
	}
}

func TestBitsOfBigs(t *testing.T) {
	for k := range 32 * impl.MaxLimbs {
		power := twoTo(k)
		less := new(big.Int).Sub(power, big.NewInt(1))
		for _, sign := range []int64{1, -1} {
			if n := impl.BitLen(fromOracle(new(big.Int).Mul(power, big.NewInt(sign)))); n != k+1 {
				t.Errorf("BitLen of 2 to the %d, times %d: %d", k, sign, n)
			}
			if n := impl.BitLen(fromOracle(new(big.Int).Mul(less, big.NewInt(sign)))); n != k {
				t.Errorf("BitLen of 2 to the %d without 1, times %d: %d", k, sign, n)
			}
		}
	}
	if impl.BitLen(impl.Big{}) != 0 || impl.BitLen(bigOfLimbs(true, manyLimbs(impl.MaxLimbs, ones)...)) != 1280 {
		t.Error("at the ends")
	}
}

func TestBigsComeBackFromTheirTexts(t *testing.T) {
	r := rand.New(rand.NewSource(27))
	list := edgeBigs()
	for range 2000 {
		list = append(list, chanceBig(r, impl.MaxLimbs), chanceBig(r, 4))
	}
	for k := range 386 {
		ten, half := tenTo(k), tenTo(k/2)
		for _, d := range []*big.Int{big.NewInt(-1), big.NewInt(0), big.NewInt(1), big.NewInt(7), half, new(big.Int).Neg(half)} {
			n := new(big.Int).Add(ten, d)
			list = append(list, fromOracle(n), fromOracle(n.Neg(n)))
		}
	}
	for _, x := range list {
		text := impl.IntText(x)
		if text != oracle(x).String() {
			t.Errorf("IntText of %v: %q", x, text)
		}
		if back, ok := impl.ReadBig(text); !ok || !sameBig(back, x) || !impl.BigOk(back) {
			t.Errorf("%v comes back as %v %v", x, back, ok)
		}
	}
}

func TestTextsThatAreNoBig(t *testing.T) {
	for _, s := range []string{
		"", "-", "--", "-0", "-00", "00", "01", "-01", "000", "+0", "+1", "--1", "-+1", "1-", "-1-", " 1", "1 ", "1\n", "- 1", "1.0", "1e3", "0x1", "1_0", "a", "1a", "a1", "/", ":", "-/", "1:", "\x00", "1\x00", "٣", "３", "1３", "\xb1", "1\xff", "é", "1/2",
		"0" + strings.Repeat("1", 300), strings.Repeat("0", 400), "−1",
	} {
		if x, ok := impl.ReadBig(s); ok || !isZeroBig(x) {
			t.Errorf("ReadBig of %q: %v %v", s, x, ok)
		}
	}
}

func TestTextsAtTheirLimits(t *testing.T) {
	most := new(big.Int).Sub(twoTo(32*impl.MaxLimbs), big.NewInt(1))
	for _, c := range []struct {
		s  string
		ok bool
	}{
		{most.String(), true}, {"-" + most.String(), true}, {twoTo(32 * impl.MaxLimbs).String(), false}, {"-" + twoTo(32*impl.MaxLimbs).String(), false},
		{"1" + strings.Repeat("0", 385), true}, {"-1" + strings.Repeat("0", 385), true}, {strings.Repeat("9", 385), true}, {strings.Repeat("9", 386), false}, {"3" + strings.Repeat("0", 385), false},
		{strings.Repeat("9", impl.MaxDigits), false}, {strings.Repeat("1", impl.MaxDigits+1), false}, {"-" + strings.Repeat("1", impl.MaxDigits-1), false}, {"-" + strings.Repeat("1", impl.MaxDigits), false},
		{strings.Repeat("0", impl.MaxDigits-1) + "1", false}, {strings.Repeat("0", impl.MaxDigits) + "1", false}, {strings.Repeat("7", 1000000), false},
	} {
		x, ok := impl.ReadBig(c.s)
		if ok != c.ok || !ok && !isZeroBig(x) || ok && impl.IntText(x) != c.s {
			t.Errorf("ReadBig of %d bytes, %q ..: %v %v", len(c.s), c.s[:3], x, ok)
		}
	}
}

func TestReadBigTakesOnlyWhatIntTextTells(t *testing.T) {
	r := rand.New(rand.NewSource(28))
	list := sampleTexts()
	for range 5000 {
		list = append(list, mixedText(r, "0123456789", 30), mixedText(r, "019-+ ", 5), "-"+mixedText(r, "0123456789", 12))
	}
	for _, s := range list {
		n, good := new(big.Int).SetString(s, 10)
		good = good && n.String() == s && fitsOracle(n)
		if x, ok := impl.ReadBig(s); ok != good || good && !sameBig(x, fromOracle(n)) || !good && !isZeroBig(x) {
			t.Errorf("ReadBig of %q: %v %v", s, x, ok)
		}
	}
}

func TestWrongBigsAreRefused(t *testing.T) {
	good := []impl.Big{{}, impl.FromInt(1), impl.FromInt(-7), fromOracle(twoTo(500))}
	for _, x := range wrongBigs() {
		if n, ok := impl.ToInt(x); ok || n != 0 {
			t.Errorf("ToInt of %v: %d %v", x, n, ok)
		}
		if impl.BitLen(x) != 0 || impl.IntText(x) != "" {
			t.Errorf("of %v: %d %q", x, impl.BitLen(x), impl.IntText(x))
		}
		for _, n := range []int{-1, 0, 1, 2, impl.MaxPower} {
			if y, ok := impl.Power(x, n); ok || !isZeroBig(y) {
				t.Errorf("Power of %v: %v %v", x, y, ok)
			}
			if y, ok := impl.RootInt(x, n); ok || !isZeroBig(y) {
				t.Errorf("RootInt of %v: %v %v", x, y, ok)
			}
		}
		for _, y := range append(good, wrongBigs()...) {
			checkRefused(t, x, y)
			checkRefused(t, y, x)
		}
	}
}

func checkRefused(t *testing.T, a impl.Big, b impl.Big) {
	t.Helper()
	if n := impl.Cmp(a, b); n != 2 {
		t.Errorf("Cmp of %v and %v: %d", a, b, n)
	}
	for name, call := range map[string]func(impl.Big, impl.Big) (impl.Big, bool){"Add": impl.Add, "Sub": impl.Sub, "Mul": impl.Mul, "GcdInt": impl.GcdInt} {
		if x, ok := call(a, b); ok || !isZeroBig(x) {
			t.Errorf("%s of %v and %v: %v %v", name, a, b, x, ok)
		}
	}
	if q, rest, ok := impl.DivMod(a, b); ok || !isZeroBig(q) || !isZeroBig(rest) {
		t.Errorf("DivMod of %v and %v: %v %v %v", a, b, q, rest, ok)
	}
	if g, x, y, ok := impl.Bezout(a, b); ok || !isZeroBig(g) || !isZeroBig(x) || !isZeroBig(y) {
		t.Errorf("Bezout of %v and %v: %v %v %v %v", a, b, g, x, y, ok)
	}
}

// bigCalls are all functions that tell Bigs, as functions of two.
func bigCalls() map[string]func(a impl.Big, b impl.Big) []impl.Big {
	one := func(x impl.Big, _ bool) []impl.Big { return []impl.Big{x} }
	two := func(x impl.Big, y impl.Big, _ bool) []impl.Big { return []impl.Big{x, y} }
	three := func(x impl.Big, y impl.Big, z impl.Big, _ bool) []impl.Big { return []impl.Big{x, y, z} }
	calls := map[string]func(a impl.Big, b impl.Big) []impl.Big{
		"Add": func(a, b impl.Big) []impl.Big { return one(impl.Add(a, b)) }, "Sub": func(a, b impl.Big) []impl.Big { return one(impl.Sub(a, b)) }, "Mul": func(a, b impl.Big) []impl.Big { return one(impl.Mul(a, b)) },
		"DivMod": func(a, b impl.Big) []impl.Big { return two(impl.DivMod(a, b)) }, "GcdInt": func(a, b impl.Big) []impl.Big { return one(impl.GcdInt(a, b)) }, "Bezout": func(a, b impl.Big) []impl.Big { return three(impl.Bezout(a, b)) },
		"rest": func(a, b impl.Big) []impl.Big {
			impl.BigOk(a)
			impl.ToInt(a)
			impl.Cmp(a, b)
			impl.BitLen(a)
			x, _ := impl.ReadBig(impl.IntText(a))
			return []impl.Big{x}
		},
	}
	for _, n := range []int{0, 1, 2, 5} {
		calls["Power by "+strconv.Itoa(n)] = func(a, _ impl.Big) []impl.Big { return one(impl.Power(a, n)) }
		calls["RootInt by "+strconv.Itoa(n)] = func(a, _ impl.Big) []impl.Big { return one(impl.RootInt(a, n)) }
	}
	return calls
}

// roomy is the same number with room behind its Limbs that is filled.
func roomy(x impl.Big, limb uint32) impl.Big {
	n := len(x.Limbs)
	return impl.Big{Neg: x.Neg, Limbs: append(slices.Clone(x.Limbs), manyLimbs(5, limb)...)[:n]}
}

func wholeRoom(x impl.Big) []uint32 {
	return x.Limbs[:cap(x.Limbs)]
}

func TestBigsAreNeitherKeptNorWrittenInto(t *testing.T) {
	list := []impl.Big{{}, impl.FromInt(1), impl.FromInt(-6), impl.FromInt(24), impl.FromInt(-ones), fromOracle(twoTo(64)), needBig(t, "-340282366920938463463374607431768211455"), bigOfLimbs(true, manyLimbs(impl.MaxLimbs, ones)...)}
	list = append(list, wrongBigs()...)
	for name, call := range bigCalls() {
		for _, first := range list {
			for _, second := range list {
				for _, limb := range []uint32{0, 7, ones} {
					checkMemory(t, name, call, roomy(first, limb), roomy(second, limb))
				}
			}
		}
	}
}

func checkMemory(t *testing.T, name string, call func(a impl.Big, b impl.Big) []impl.Big, a impl.Big, b impl.Big) {
	t.Helper()
	keptA, keptB := slices.Clone(wholeRoom(a)), slices.Clone(wholeRoom(b))
	answers := call(a, b)
	again := call(a, b)
	if !slices.Equal(wholeRoom(a), keptA) || !slices.Equal(wholeRoom(b), keptB) {
		t.Fatalf("%s writes into %v or %v", name, a, b)
	}
	for i := range answers {
		for j := range wholeRoom(answers[i]) {
			wholeRoom(answers[i])[j] ^= 0x55555555
		}
		for j := range answers {
			if j > i && !sameBig(answers[j], again[j]) {
				t.Fatalf("%s of %v and %v: two answers share memory", name, a, b)
			}
		}
	}
	if !slices.Equal(wholeRoom(a), keptA) || !slices.Equal(wholeRoom(b), keptB) {
		t.Fatalf("%s of %v and %v shares memory with them", name, a, b)
	}
	for i, x := range call(a, b) {
		if !sameBig(x, again[i]) {
			t.Fatalf("%s of %v and %v hangs on an earlier answer", name, a, b)
		}
	}
}

func TestOneBigForBothArguments(t *testing.T) {
	for name, call := range bigCalls() {
		for _, x := range []impl.Big{{}, impl.FromInt(-6), needBig(t, "340282366920938463463374607431768211455")} {
			got, want := call(x, x), call(x, impl.Big{Neg: x.Neg, Limbs: slices.Clone(x.Limbs)})
			if !slices.EqualFunc(got, want, sameBig) {
				t.Errorf("%s of %v and itself: %v, wanted %v", name, x, got, want)
			}
		}
	}
}

func TestFromIntTellsNewMemory(t *testing.T) {
	for _, n := range []int{0, 1, -1, math.MaxInt, math.MinInt} {
		x, y := impl.FromInt(n), impl.FromInt(n)
		for i := range wholeRoom(x) {
			wholeRoom(x)[i]++
		}
		if back, ok := impl.ToInt(y); !ok || back != n || !sameBig(impl.FromInt(n), y) {
			t.Errorf("FromInt of %d hangs on an earlier answer", n)
		}
	}
}
