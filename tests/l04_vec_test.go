package tests

import (
	"math"
	"math/big"
	"math/rand"
	"slices"
	"strconv"
	"strings"
	"testing"
	"unsafe"

	"loop.example/g00676/impl"
)

func vecOf(den int, at ...int) impl.Vec {
	return impl.Vec{Den: den, At: at}
}

func sameVec(a impl.Vec, b impl.Vec) bool {
	return a.Den == b.Den && slices.Equal(a.At, b.At)
}

func isZeroVec(v impl.Vec) bool {
	return sameVec(v, impl.Vec{})
}

func manyInts(n int, number int) []int {
	return slices.Repeat([]int{number}, n)
}

// vecValues are the values as the library has them; Den isn't 0.
func vecValues(v impl.Vec) []*big.Rat {
	return valuesOf(v.At, v.Den)
}

func valuesOf(list []int, den int) []*big.Rat {
	var values []*big.Rat
	for _, number := range list {
		values = append(values, new(big.Rat).SetFrac(big.NewInt(int64(number)), big.NewInt(int64(den))))
	}
	return values
}

// vecOfValues is the right one of these values, made by the least common multiple of what stands below, not by divisors.
func vecOfValues(values []*big.Rat) (impl.Vec, bool) {
	below := big.NewInt(1)
	for _, value := range values {
		shared := new(big.Int).GCD(nil, nil, below, value.Denom())
		below = new(big.Int).Mul(below, new(big.Int).Quo(value.Denom(), shared))
	}
	if len(values) > impl.MaxLen || below.Cmp(big.NewInt(impl.MaxDen)) > 0 {
		return impl.Vec{}, false
	}
	v := impl.Vec{Den: int(below.Int64())}
	for _, value := range values {
		number := new(big.Rat).Mul(value, new(big.Rat).SetInt(below)).Num()
		if number.CmpAbs(big.NewInt(impl.MaxUp)) > 0 {
			return impl.Vec{}, false
		}
		v.At = append(v.At, int(number.Int64()))
	}
	return v, true
}

// rightByWords is what the document calls right, one divisor after the other.
func rightByWords(v impl.Vec) bool {
	if len(v.At) > impl.MaxLen || v.Den < 1 || v.Den > impl.MaxDen {
		return false
	}
	for _, number := range v.At {
		if number < -impl.MaxUp || number > impl.MaxUp {
			return false
		}
	}
	for d := 2; d <= v.Den; d++ {
		rest := func(number int) bool { return number%d != 0 }
		if v.Den%d == 0 && !slices.ContainsFunc(v.At, rest) {
			return false
		}
	}
	return true
}

func tellsVec(t *testing.T, name string, given any, got impl.Vec, ok bool, values []*big.Rat) {
	t.Helper()
	want, right := vecOfValues(values)
	if ok != right || !sameVec(got, want) || ok && !impl.VecOk(got) {
		t.Errorf("%s of %v: %v %v, wanted %v %v", name, given, got, ok, want, right)
	}
}

func refusesVec(t *testing.T, name string, given any, got impl.Vec, ok bool) {
	t.Helper()
	if ok || !isZeroVec(got) {
		t.Errorf("%s of %v is to be refused, but told: %v %v", name, given, got, ok)
	}
}

// wrongVecs are not right, each for a reason of its own.
func wrongVecs() []impl.Vec {
	const up, den = impl.MaxUp, impl.MaxDen
	return []impl.Vec{
		{}, vecOf(0, 0), vecOf(0, 1), vecOf(0, manyInts(impl.MaxLen, 1)...), vecOf(-1), vecOf(-1, 0), vecOf(-1, 1), vecOf(-2, 1), vecOf(-den, 7), vecOf(math.MinInt, 1), vecOf(math.MinInt),
		vecOf(2), vecOf(den), vecOf(den + 1), vecOf(den+1, 1), vecOf(1000, 3), vecOf(math.MaxInt, 1), vecOf(math.MaxInt),
		vecOf(2, 0), vecOf(2, 0, 0), vecOf(den, 0), vecOf(3, manyInts(impl.MaxLen, 0)...),
		vecOf(2, 2), vecOf(2, -2), vecOf(2, 4, 0, -6), vecOf(6, 3, 9), vecOf(6, 4, 0), vecOf(den, 2, den), vecOf(den, den), vecOf(719, 719, 0, -719), vecOf(5, manyInts(impl.MaxLen, -5)...), vecOf(4, 6, 2, 2, 2, 2, 2, 2, 2), vecOf(49, 7, 0, 14),
		vecOf(1, up+1), vecOf(1, -up-1), vecOf(7, up+1), vecOf(7, 1, -up-1), vecOf(1, 0, 0, 0, 0, 0, 0, 0, up+1), vecOf(1, math.MaxInt), vecOf(1, math.MinInt), vecOf(3, 1, math.MinInt), vecOf(2, math.MinInt, 1),
		vecOf(1, manyInts(impl.MaxLen+1, 0)...), vecOf(1, manyInts(impl.MaxLen+1, 1)...), vecOf(2, manyInts(impl.MaxLen+1, 1)...), vecOf(1, manyInts(1000, 3)...),
	}
}

// edgeVecs are right, all of n values (n above 0).
func edgeVecs(n int) []impl.Vec {
	const up = impl.MaxUp
	list := []impl.Vec{vecOf(1, manyInts(n, 0)...)}
	for _, number := range []int{1, -1, 2, 3, up, -up, up - 9} {
		list = append(list, vecOf(1, manyInts(n, number)...))
		for _, den := range []int{1, 2, 3, 7, 16, 360, 719, impl.MaxDen} {
			first, last := vecOf(den, manyInts(n, 0)...), vecOf(den, manyInts(n, 0)...)
			first.At[0], last.At[n-1] = number, number
			if rightByWords(first) {
				list = append(list, first, last)
			}
		}
	}
	return list
}

// chanceVec is of n values: few of them parts that shorten each other, or any that fit.
func chanceVec(r *rand.Rand, n int) impl.Vec {
	most := []int{3, 12, 1000, impl.MaxUp}[r.Intn(4)]
	dens := []int{1, 2, 3, 4, 6, 12, 30, 240, 719, 720, 1 + r.Intn(impl.MaxDen)}
	for {
		v := vecOf(dens[r.Intn(len(dens))])
		for range n {
			number := r.Intn(2*most+1) - most
			if r.Intn(3) == 0 {
				number = 0
			}
			v.At = append(v.At, number)
		}
		if rightByWords(v) {
			return v
		}
		if n == 0 {
			return vecOf(1)
		}
	}
}

func vecPairs() [][2]impl.Vec {
	var list [][2]impl.Vec
	for _, n := range []int{1, 3, impl.MaxLen} {
		edges := edgeVecs(n)
		for _, a := range edges {
			for _, b := range edges {
				list = append(list, [2]impl.Vec{a, b})
			}
		}
	}
	r := rand.New(rand.NewSource(41))
	for range 4000 {
		n := r.Intn(impl.MaxLen + 1)
		a, b := chanceVec(r, n), chanceVec(r, n)
		list = append(list, [2]impl.Vec{a, b}, [2]impl.Vec{a, a})
	}
	return list
}

func TestConstantsOfPowers(t *testing.T) {
	if impl.MaxLen != 8 || impl.MaxDen != 720 || impl.MaxUp != 100000 {
		t.Error(impl.MaxLen, impl.MaxDen, impl.MaxUp)
	}
}

func TestVecsThatAreRight(t *testing.T) {
	const up = impl.MaxUp
	for _, v := range []impl.Vec{
		vecOf(1), {Den: 1, At: []int{}}, vecOf(1, 0), vecOf(1, 5), vecOf(1, 0, 0), vecOf(1, manyInts(impl.MaxLen, 0)...), vecOf(1, manyInts(impl.MaxLen, up)...), vecOf(1, manyInts(impl.MaxLen, -up)...),
		vecOf(2, 1), vecOf(2, -1, 0), vecOf(6, 2, 3), vecOf(6, 3, 2), vecOf(6, 4, 9, 0), vecOf(impl.MaxDen, 1), vecOf(impl.MaxDen, impl.MaxDen, 7), vecOf(719, up, -up), vecOf(impl.MaxDen, up-9, 0), vecOf(2, 2, 2, 2, 2, 2, 2, 2, 1), vecOf(30, 6, 10, 15),
	} {
		if !impl.VecOk(v) {
			t.Errorf("%v is right", v)
		}
	}
	for _, v := range wrongVecs() {
		if impl.VecOk(v) {
			t.Errorf("%v isn't right", v)
		}
	}
}

func TestVecOkByWords(t *testing.T) {
	for den := -3; den <= impl.MaxDen+3; den++ {
		for _, at := range [][]int{nil, {}, {0}, {1}, {-1}, {2}, {6, 10, 15}, {6, -12, 0}, {60, 0}, {den}, {-den, den}, {den, 1}, {impl.MaxUp}, {impl.MaxUp + 1}, manyInts(impl.MaxLen, 1), manyInts(impl.MaxLen+1, 1)} {
			if v := vecOf(den, at...); impl.VecOk(v) != rightByWords(v) {
				t.Errorf("VecOk of %v: %v", v, impl.VecOk(v))
			}
		}
	}
	r := rand.New(rand.NewSource(42))
	right := 0
	for range 20000 {
		v := vecOf(1 + r.Intn(40))
		for range r.Intn(impl.MaxLen + 1) {
			v.At = append(v.At, 6*(r.Intn(41)-20)/(1+r.Intn(6)))
		}
		if rightByWords(v) {
			right++
		}
		if impl.VecOk(v) != rightByWords(v) {
			t.Errorf("VecOk of %v: %v", v, impl.VecOk(v))
		}
	}
	if right < 2000 || right > 18000 {
		t.Errorf("too few of a kind: %d are right", right)
	}
}

func TestVecMakeAtEdges(t *testing.T) {
	const small, up, den = impl.MaxSmall, impl.MaxUp, impl.MaxDen
	for _, c := range []struct {
		list []int
		den  int
		want impl.Vec
	}{
		{nil, 1, vecOf(1)}, {nil, -7, vecOf(1)}, {[]int{}, small, vecOf(1)}, {nil, -small, vecOf(1)},
		{[]int{0}, 5, vecOf(1, 0)}, {[]int{0, 0}, -5, vecOf(1, 0, 0)}, {[]int{0, 0, 0}, small, vecOf(1, 0, 0, 0)}, {[]int{0}, -small, vecOf(1, 0)}, {manyInts(impl.MaxLen, 0), den + 1, vecOf(1, manyInts(impl.MaxLen, 0)...)},
		{[]int{2, -4, 0}, 6, vecOf(3, 1, -2, 0)}, {[]int{2, -4, 0}, -6, vecOf(3, -1, 2, 0)}, {[]int{3, 0}, -3, vecOf(1, -1, 0)}, {[]int{1}, -1, vecOf(1, -1)}, {[]int{-1}, -1, vecOf(1, 1)}, {[]int{6, 4}, 4, vecOf(2, 3, 2)},
		{[]int{small}, small, vecOf(1, 1)}, {[]int{small}, -small, vecOf(1, -1)}, {[]int{-small, small}, small, vecOf(1, -1, 1)}, {[]int{-small}, -small, vecOf(1, 1)},
		{[]int{small}, 10000, vecOf(1, up)}, {[]int{-small}, 10000, vecOf(1, -up)}, {[]int{small, -small}, -10000, vecOf(1, -up, up)}, {[]int{small, 1}, 10000, impl.Vec{}}, {[]int{small}, 9999, impl.Vec{}}, {[]int{small}, 8000, impl.Vec{}}, {[]int{small}, 1, impl.Vec{}}, {[]int{-small}, 1, impl.Vec{}}, {[]int{small, 0}, -2, impl.Vec{}},
		{[]int{small / 2}, small, vecOf(2, 1)}, {[]int{small / 625}, small, vecOf(625, 1)}, {[]int{small / 640}, small, vecOf(640, 1)}, {[]int{small / 800}, small, impl.Vec{}}, {[]int{1}, small, impl.Vec{}}, {[]int{0, 1}, -small, impl.Vec{}},
		{[]int{1}, den, vecOf(den, 1)}, {[]int{1}, -den, vecOf(den, -1)}, {[]int{1}, den + 1, impl.Vec{}}, {[]int{1}, -den - 1, impl.Vec{}}, {[]int{2}, 2 * den, vecOf(den, 1)}, {[]int{2, 4}, 2 * (den + 1), impl.Vec{}}, {[]int{2, 3}, 2 * den, impl.Vec{}}, {[]int{103}, den + 1, vecOf(7, 1)}, {[]int{103, 1}, den + 1, impl.Vec{}},
		{[]int{up}, 1, vecOf(1, up)}, {[]int{-up}, 1, vecOf(1, -up)}, {[]int{up + 1}, 1, impl.Vec{}}, {[]int{-up - 1}, 1, impl.Vec{}}, {[]int{2 * up, 2}, 2, vecOf(1, up, 1)}, {[]int{2*up + 2, 2}, 2, impl.Vec{}}, {[]int{-2*up - 2}, -2, impl.Vec{}}, {[]int{up + 1}, 2, impl.Vec{}}, {[]int{up + 1}, 11, vecOf(1, 9091)}, {[]int{up + 2, 0}, 2, vecOf(1, up/2+1, 0)},
		{manyInts(impl.MaxLen, 4), 6, vecOf(3, manyInts(impl.MaxLen, 2)...)}, {append(manyInts(impl.MaxLen-1, 4), 1), 6, vecOf(6, append(manyInts(impl.MaxLen-1, 4), 1)...)},
	} {
		got, ok := impl.VecMake(c.list, c.den)
		if ok != (c.want.Den > 0) || !sameVec(got, c.want) {
			t.Errorf("VecMake of %v and %d: %v %v, wanted %v", c.list, c.den, got, ok, c.want)
		}
		tellsVec(t, "VecMake", []any{c.list, c.den}, got, ok, valuesOf(c.list, c.den))
	}
}

// What is told of the arguments themselves refuses also where the values could be a right one's.
func TestVecMakeOfWrongArguments(t *testing.T) {
	const small = impl.MaxSmall
	for _, c := range []struct {
		list []int
		den  int
	}{
		{nil, 0}, {[]int{0}, 0}, {[]int{1, 2}, 0}, {manyInts(impl.MaxLen, small), 0},
		{nil, small + 1}, {nil, -small - 1}, {[]int{0}, small + 1}, {[]int{0}, -small - 1}, {nil, math.MinInt}, {[]int{0}, math.MinInt}, {[]int{1}, math.MinInt}, {nil, math.MaxInt}, {[]int{0, 0}, math.MaxInt}, {[]int{small}, small + 1},
		{[]int{small + 1}, 1}, {[]int{small + 1}, small + 1}, {[]int{small + 8}, small / 8}, {[]int{-small - 1}, 1}, {[]int{-small - 1}, -small - 1}, {[]int{small + 1}, 52579}, {[]int{-small - 1}, 52579}, {[]int{0, small + 1}, -52579}, {[]int{small + 10000}, 20000}, {[]int{-small - 10000}, 20000}, {[]int{0, 0, 0, 0, 0, 0, 0, 2 * small}, small},
		{[]int{math.MinInt}, math.MinInt}, {[]int{math.MinInt}, 1}, {[]int{math.MinInt}, -1}, {[]int{1, math.MinInt}, small}, {[]int{math.MaxInt}, math.MaxInt}, {[]int{math.MaxInt}, 7}, {[]int{math.MinInt, math.MinInt}, 2},
		{manyInts(impl.MaxLen+1, 0), 1}, {manyInts(impl.MaxLen+1, 1), 1}, {manyInts(impl.MaxLen+1, 2), 2}, {manyInts(1<<16, 0), 1},
	} {
		got, ok := impl.VecMake(c.list, c.den)
		refusesVec(t, "VecMake", []any{c.list[:min(len(c.list), 10)], c.den}, got, ok)
	}
}

func TestVecMakeOfMany(t *testing.T) {
	for den := -30; den <= 30; den++ {
		for a := -12; a <= 12 && den != 0; a++ {
			for b := -12; b <= 12; b++ {
				list := []int{a, b}
				got, ok := impl.VecMake(list, den)
				tellsVec(t, "VecMake", []any{list, den}, got, ok, valuesOf(list, den))
			}
		}
	}
	r := rand.New(rand.NewSource(43))
	right, wrong := 0, 0
	for range 20000 {
		v := chanceVec(r, r.Intn(impl.MaxLen+1))
		by := 1 + r.Intn(impl.MaxSmall/impl.MaxUp)
		list := slices.Clone(v.At)
		for i := range list {
			list[i] *= by
		}
		if len(list) > 0 && r.Intn(2) == 0 {
			list[r.Intn(len(list))] = r.Intn(2*impl.MaxSmall+1) - impl.MaxSmall
		}
		got, ok := impl.VecMake(list, v.Den*by)
		tellsVec(t, "VecMake", []any{list, v.Den * by}, got, ok, valuesOf(list, v.Den*by))
		back, backOk := impl.VecMake(v.At, v.Den)
		if !backOk || !sameVec(back, v) {
			t.Errorf("VecMake of %v as it is: %v %v", v, back, backOk)
		}
		if ok {
			right++
		} else {
			wrong++
		}
	}
	if right < 1000 || wrong < 1000 {
		t.Errorf("too few of a kind: %d right, %d wrong", right, wrong)
	}
}

func TestNoughtsAndUnits(t *testing.T) {
	numbers := []int{math.MinInt, -impl.MaxLen, -2, -1, 0, 1, 2, 3, impl.MaxLen - 1, impl.MaxLen, impl.MaxLen + 1, impl.MaxLen + 2, impl.MaxSmall, math.MaxInt}
	for _, n := range numbers {
		want := impl.Vec{}
		if n >= 0 && n <= impl.MaxLen {
			want = vecOf(1, manyInts(n, 0)...)
		}
		if got := impl.Nought(n); !sameVec(got, want) || impl.VecOk(got) != (want.Den == 1) {
			t.Errorf("Nought of %d: %v, wanted %v", n, got, want)
		}
		for _, i := range append(numbers, n-1, n, n+1) {
			want := impl.Vec{}
			if n >= 1 && n <= impl.MaxLen && i >= 0 && i < n {
				want = vecOf(1, manyInts(n, 0)...)
				want.At[i] = 1
			}
			if got := impl.UnitVec(n, i); !sameVec(got, want) || impl.VecOk(got) != (want.Den == 1) {
				t.Errorf("UnitVec of %d and %d: %v, wanted %v", n, i, got, want)
			}
		}
	}
	if !sameVec(impl.UnitVec(1, 0), vecOf(1, 1)) || !sameVec(impl.UnitVec(3, 2), vecOf(1, 0, 0, 1)) || !sameVec(impl.UnitVec(8, 7), vecOf(1, 0, 0, 0, 0, 0, 0, 0, 1)) {
		t.Error("the first and the last place")
	}
}

func valuesAdded(a impl.Vec, b impl.Vec) []*big.Rat {
	values := vecValues(a)
	for i, other := range vecValues(b) {
		values[i].Add(values[i], other)
	}
	return values
}

func TestVecAddAtEdges(t *testing.T) {
	const up, den = impl.MaxUp, impl.MaxDen
	for _, c := range []struct{ a, b, want impl.Vec }{
		{vecOf(1), vecOf(1), vecOf(1)}, {vecOf(1, 0), vecOf(1, 0), vecOf(1, 0)}, {vecOf(1, 2, 3), vecOf(1, -5, 4), vecOf(1, -3, 7)}, {vecOf(2, 1), vecOf(2, 1), vecOf(1, 1)}, {vecOf(2, 1, 2), vecOf(3, 1, -3), vecOf(6, 5, 0)}, {vecOf(6, 1, 3), vecOf(3, 1, 0), vecOf(2, 1, 1)}, {vecOf(6, 1), vecOf(10, 1), vecOf(15, 4)},
		{vecOf(7, 3, -2), vecOf(7, -3, 2), vecOf(1, 0, 0)}, {vecOf(den, 1), vecOf(den, -1), vecOf(1, 0)}, {vecOf(1, up), vecOf(1, -up), vecOf(1, 0)}, {vecOf(2, 1, 1), vecOf(2, -1, 1), vecOf(1, 0, 1)}, {vecOf(719, manyInts(impl.MaxLen, 5)...), vecOf(719, manyInts(impl.MaxLen, -5)...), vecOf(1, manyInts(impl.MaxLen, 0)...)},
		// Dens whose common one is beyond MaxDen ahead of shortening, behind it, or just MaxDen.
		{vecOf(7, 1), vecOf(103, 1), impl.Vec{}}, {vecOf(7, 1, 0), vecOf(103, 0, 1), impl.Vec{}}, {vecOf(16, 1), vecOf(45, 1), vecOf(den, 61)}, {vecOf(16, 1, 0), vecOf(45, 0, 1), vecOf(den, 45, 16)}, {vecOf(den, 1), vecOf(719, 1), impl.Vec{}}, {vecOf(den, 1), vecOf(den, 1), vecOf(den/2, 1)}, {vecOf(480, 1), vecOf(360, 1), impl.Vec{}}, {vecOf(480, 1), vecOf(480, 1), vecOf(240, 1)}, {vecOf(480, 1), vecOf(160, 1), vecOf(120, 1)}, {vecOf(630, 1), vecOf(315, 1), vecOf(210, 1)}, {vecOf(450, 1), vecOf(700, 1), impl.Vec{}}, {vecOf(420, 1, 0), vecOf(660, 1, 0), impl.Vec{}},
		{vecOf(180, 1), vecOf(80, 3), vecOf(den, 31)}, {vecOf(270, 1), vecOf(540, 1), vecOf(180, 1)}, {vecOf(216, 1), vecOf(540, 1), impl.Vec{}}, {vecOf(480, 1), vecOf(288, 1), vecOf(180, 1)}, {vecOf(480, 1, 0), vecOf(288, 1, 0), vecOf(180, 1, 0)}, {vecOf(480, 1, 1), vecOf(288, 1, 0), impl.Vec{}}, {vecOf(480, -1, 1), vecOf(288, 1, 1), vecOf(den, 1, 4)}, {vecOf(480, 11), vecOf(288, -1), vecOf(360, 7)}, {vecOf(480, 7), vecOf(288, -1), vecOf(90, 1)},
		{vecOf(1, up), vecOf(1, 0), vecOf(1, up)}, {vecOf(1, up-1), vecOf(1, 1), vecOf(1, up)}, {vecOf(1, up), vecOf(1, 1), impl.Vec{}}, {vecOf(1, 1-up), vecOf(1, -1), vecOf(1, -up)}, {vecOf(1, -up), vecOf(1, -1), impl.Vec{}}, {vecOf(1, 1, up), vecOf(1, 1, up), impl.Vec{}}, {vecOf(2, up-1), vecOf(2, up-1), vecOf(1, up-1)}, {vecOf(3, up), vecOf(3, up), impl.Vec{}}, {vecOf(3, up), vecOf(6, 1), vecOf(2, 66667)}, {vecOf(3, up), vecOf(2, 1), impl.Vec{}}, {vecOf(2, up-1, 1), vecOf(2, 1, 1), vecOf(1, up/2, 1)}, {vecOf(2, up-1, 1), vecOf(2, 1, 0), vecOf(2, up, 1)}, {vecOf(2, up-1, 1), vecOf(2, 3, 0), impl.Vec{}}, {vecOf(2, 1-up, 1), vecOf(2, -1, 0), vecOf(2, -up, 1)}, {vecOf(2, 1-up, 1), vecOf(2, -3, 0), impl.Vec{}}, {vecOf(1, up/2), vecOf(2, 1), impl.Vec{}}, {vecOf(1, up/2-1), vecOf(2, 1), vecOf(2, up-1)},
	} {
		for _, p := range [][2]impl.Vec{{c.a, c.b}, {c.b, c.a}} {
			got, ok := impl.VecAdd(p[0], p[1])
			if ok != (c.want.Den > 0) || !sameVec(got, c.want) {
				t.Errorf("VecAdd of %v: %v %v, wanted %v", p, got, ok, c.want)
			}
			tellsVec(t, "VecAdd", p, got, ok, valuesAdded(p[0], p[1]))
		}
	}
}

func TestVecAddOfOtherLengths(t *testing.T) {
	for n := range impl.MaxLen + 1 {
		for m := range impl.MaxLen + 1 {
			got, ok := impl.VecAdd(impl.Nought(n), impl.Nought(m))
			if n != m {
				refusesVec(t, "VecAdd", []int{n, m}, got, ok)
			} else if !ok || !sameVec(got, impl.Nought(n)) {
				t.Errorf("VecAdd of %d noughts: %v %v", n, got, ok)
			}
		}
	}
	got, ok := impl.VecAdd(vecOf(2, 1, 0), vecOf(2, 1))
	refusesVec(t, "VecAdd", "a nought more", got, ok)
}

func TestPowersAreAddedInAnyOrder(t *testing.T) {
	right, wrong := 0, 0
	for _, p := range vecPairs() {
		got, ok := impl.VecAdd(p[0], p[1])
		tellsVec(t, "VecAdd", p, got, ok, valuesAdded(p[0], p[1]))
		turned, turnedOk := impl.VecAdd(p[1], p[0])
		if ok != turnedOk || !sameVec(got, turned) {
			t.Errorf("VecAdd of %v: %v %v, and in the other order %v %v", p, got, ok, turned, turnedOk)
		}
		if ok {
			right++
		} else {
			wrong++
		}
	}
	if right < 1000 || wrong < 1000 {
		t.Errorf("too few of a kind: %d right, %d wrong", right, wrong)
	}
}

// sumInOrder adds the list by an order of its places; false where one sum is refused.
func sumInOrder(list []impl.Vec, order []int) (impl.Vec, bool) {
	sum, ok := list[order[0]], true
	for _, place := range order[1:] {
		if sum, ok = impl.VecAdd(sum, list[place]); !ok {
			return impl.Vec{}, false
		}
	}
	return sum, true
}

func TestManyPowersAreAddedInAnyOrder(t *testing.T) {
	r := rand.New(rand.NewSource(44))
	told := 0
	for range 3000 {
		n := r.Intn(impl.MaxLen + 1)
		var list []impl.Vec
		for range 2 + r.Intn(5) {
			list = append(list, chanceVec(r, n))
		}
		var sums []impl.Vec
		for range 6 {
			if sum, ok := sumInOrder(list, r.Perm(len(list))); ok {
				sums = append(sums, sum)
			}
		}
		for _, sum := range sums {
			if !sameVec(sum, sums[0]) {
				t.Errorf("%v added: %v and %v", list, sum, sums[0])
			}
		}
		// Two by two, with brackets on the other side.
		ab, ok := impl.VecAdd(list[0], list[1])
		other := list[len(list)-1]
		left, leftOk := impl.VecAdd(ab, other)
		bc, bcOk := impl.VecAdd(list[1], other)
		right, rightOk := impl.VecAdd(list[0], bc)
		if ok && leftOk && bcOk && rightOk {
			told++
			if !sameVec(left, right) {
				t.Errorf("%v and %v by brackets: %v and %v", list[:2], other, left, right)
			}
		}
	}
	if told < 300 {
		t.Errorf("only %d told", told)
	}
}

func valuesScaled(v impl.Vec, p int, q int) []*big.Rat {
	values := vecValues(v)
	for _, value := range values {
		value.Mul(value, new(big.Rat).SetFrac(big.NewInt(int64(p)), big.NewInt(int64(q))))
	}
	return values
}

func TestVecScaleAtEdges(t *testing.T) {
	const small, up, den = impl.MaxSmall, impl.MaxUp, impl.MaxDen
	for _, c := range []struct {
		v    impl.Vec
		p, q int
		want impl.Vec
	}{
		{vecOf(1), 5, 7, vecOf(1)}, {vecOf(1), small, -small, vecOf(1)}, {vecOf(1), 0, -1, vecOf(1)},
		{vecOf(1, 0, 0), small, 1, vecOf(1, 0, 0)}, {vecOf(1, 0, 0), 1, small, vecOf(1, 0, 0)}, {vecOf(1, 0, 0), -small, -small, vecOf(1, 0, 0)},
		{vecOf(7, 3, -2), 0, 1, vecOf(1, 0, 0)}, {vecOf(7, 3, -2), 0, small, vecOf(1, 0, 0)}, {vecOf(den, up-9, 0), 0, -small, vecOf(1, 0, 0)},
		{vecOf(7, 3, -2), 1, 1, vecOf(7, 3, -2)}, {vecOf(7, 3, -2), -1, 1, vecOf(7, -3, 2)}, {vecOf(7, 3, -2), 1, -1, vecOf(7, -3, 2)}, {vecOf(7, 3, -2), -1, -1, vecOf(7, 3, -2)}, {vecOf(7, 3, -2), 7, 1, vecOf(1, 3, -2)}, {vecOf(7, 3, -2), -14, 4, vecOf(2, -3, 2)}, {vecOf(3, 1, -2), 3, 2, vecOf(2, 1, -2)}, {vecOf(1, 6, 4), 1, -2, vecOf(1, -3, -2)},
		{vecOf(2, 1), small, small, vecOf(2, 1)}, {vecOf(2, 1), -small, small, vecOf(2, -1)}, {vecOf(2, 1), small, -small, vecOf(2, -1)}, {vecOf(2, 1), -small, -small, vecOf(2, 1)}, {vecOf(den, 9-up), small, small, vecOf(den, 9-up)}, {vecOf(den, 9-up), small, -small, vecOf(den, up-9)}, {vecOf(719, up, -up), -small, -small, vecOf(719, up, -up)}, {vecOf(1, up), small, small, vecOf(1, up)},
		{vecOf(1, up), small, 1, impl.Vec{}}, {vecOf(1, up), 1, small, impl.Vec{}}, {vecOf(1, 1), small, 10000, vecOf(1, up)}, {vecOf(1, -1), small, 10000, vecOf(1, -up)}, {vecOf(1, 1), small, 9999, impl.Vec{}}, {vecOf(1, 1), small / 625, small, vecOf(625, 1)}, {vecOf(1, 1), small / 800, small, impl.Vec{}}, {vecOf(1, up), 10000, small, vecOf(1, 1)}, {vecOf(1, up, 0), 1, up, vecOf(1, 1, 0)}, {vecOf(1, up), 1, 2 * up, vecOf(2, 1)},
		{vecOf(1, 1), 1, den, vecOf(den, 1)}, {vecOf(1, 1), 1, den + 1, impl.Vec{}}, {vecOf(1, 103), 1, den + 1, vecOf(7, 1)}, {vecOf(1, 103, 1), 1, den + 1, impl.Vec{}}, {vecOf(2, 1), 1, den / 2, vecOf(den, 1)}, {vecOf(2, 1), -1, den/2 + 1, impl.Vec{}}, {vecOf(den, 1), 1, 2, impl.Vec{}}, {vecOf(den, 1), 2, 2, vecOf(den, 1)}, {vecOf(den, 7), 1, 7, vecOf(den, 1)}, {vecOf(den, 2, 7), 1, 2, impl.Vec{}},
		{vecOf(1, 1), up, 1, vecOf(1, up)}, {vecOf(1, 1), up + 1, 1, impl.Vec{}}, {vecOf(1, 1), -up - 1, 1, impl.Vec{}}, {vecOf(1, -1), up, 1, vecOf(1, -up)}, {vecOf(1, 1, 0), up + 1, 11, vecOf(1, 9091, 0)}, {vecOf(2, 1), 2 * up, 1, vecOf(1, up)}, {vecOf(2, 1), 2*up + 2, 1, impl.Vec{}}, {vecOf(2, 1), up + 1, 1, impl.Vec{}}, {vecOf(1, up/2), 2, 1, vecOf(1, up)}, {vecOf(1, up/2+1), 2, 1, impl.Vec{}}, {vecOf(1, manyInts(impl.MaxLen, up)...), -1, 1, vecOf(1, manyInts(impl.MaxLen, -up)...)},
	} {
		got, ok := impl.VecScale(c.v, c.p, c.q)
		if ok != (c.want.Den > 0) || !sameVec(got, c.want) {
			t.Errorf("VecScale of %v by %d and %d: %v %v, wanted %v", c.v, c.p, c.q, got, ok, c.want)
		}
		tellsVec(t, "VecScale", []any{c.v, c.p, c.q}, got, ok, valuesScaled(c.v, c.p, c.q))
	}
}

func TestVecScaleByWrongNumbers(t *testing.T) {
	const small = impl.MaxSmall
	beyond := []int{small + 1, -small - 1, 2 * small, math.MaxInt, math.MinInt, math.MinInt + 1}
	for _, v := range append(edgeVecs(3), vecOf(1), vecOf(1, manyInts(impl.MaxLen, 0)...)) {
		for _, p := range append(beyond, 0, 1, -1, 2, small, -small) {
			got, ok := impl.VecScale(v, p, 0)
			refusesVec(t, "VecScale by nought", []any{v, p}, got, ok)
			for _, q := range beyond {
				got, ok := impl.VecScale(v, p, q)
				refusesVec(t, "VecScale", []any{v, p, q}, got, ok)
				got, ok = impl.VecScale(v, q, p)
				refusesVec(t, "VecScale", []any{v, q, p}, got, ok)
			}
		}
	}
}

// scales are pairs of p and q, 0 among the first.
func scales(r *rand.Rand) [][2]int {
	list := [][2]int{{1, 1}, {-1, 1}, {1, -1}, {0, 1}, {0, -3}, {2, 1}, {1, 2}, {-3, 4}, {30, -12}, {720, 1}, {1, 720}, {impl.MaxSmall, impl.MaxSmall}, {-impl.MaxSmall, impl.MaxSmall}, {impl.MaxSmall, 1}, {1, impl.MaxSmall}, {impl.MaxSmall, impl.MaxSmall - 1}}
	for range 6 {
		list = append(list, [2]int{r.Intn(25) - 12, 1 + r.Intn(12)}, [2]int{r.Intn(2*impl.MaxSmall+1) - impl.MaxSmall, -1 - r.Intn(impl.MaxSmall)})
	}
	return list
}

func TestPowersScaledAndScaledBack(t *testing.T) {
	r := rand.New(rand.NewSource(45))
	list := append(edgeVecs(1), edgeVecs(impl.MaxLen)...)
	for range 2000 {
		list = append(list, chanceVec(r, r.Intn(impl.MaxLen+1)))
	}
	back, refused := 0, 0
	for _, v := range list {
		for _, s := range scales(r) {
			got, ok := impl.VecScale(v, s[0], s[1])
			tellsVec(t, "VecScale", []any{v, s}, got, ok, valuesScaled(v, s[0], s[1]))
			if !ok {
				refused++
				continue
			}
			again, ok := impl.VecScale(got, s[1], s[0])
			if s[0] == 0 {
				refusesVec(t, "VecScale back by nought", v, again, ok)
				continue
			}
			if back++; !ok || !sameVec(again, v) {
				t.Errorf("%v scaled by %v and back: %v %v", v, s, again, ok)
			}
		}
	}
	if back < 1000 || refused < 1000 {
		t.Errorf("too few of a kind: %d came back, %d refused", back, refused)
	}
}

func TestScalesGoWithSums(t *testing.T) {
	r := rand.New(rand.NewSource(46))
	for range 5000 {
		v := chanceVec(r, r.Intn(impl.MaxLen+1))
		twice, twiceOk := impl.VecScale(v, 2, 1)
		sum, sumOk := impl.VecAdd(v, v)
		if twiceOk != sumOk || !sameVec(twice, sum) {
			t.Errorf("%v twice: %v %v, and added %v %v", v, twice, twiceOk, sum, sumOk)
		}
		less, ok := impl.VecScale(v, -1, 1)
		none, noneOk := impl.VecAdd(v, less)
		if !ok || !noneOk || !sameVec(none, impl.Nought(len(v.At))) {
			t.Errorf("%v with its other sign: %v %v, the sum %v %v", v, less, ok, none, noneOk)
		}
	}
}

// orderByValues is what VecCmp tells of two right ones that are equally long.
func orderByValues(a impl.Vec, b impl.Vec) int {
	others := vecValues(b)
	for i, value := range vecValues(a) {
		if c := value.Cmp(others[i]); c != 0 {
			return c
		}
	}
	return 0
}

func TestVecCmpAtEdges(t *testing.T) {
	const up = impl.MaxUp
	for _, c := range []struct {
		a, b impl.Vec
		want int
	}{
		{vecOf(1), vecOf(1), 0}, {vecOf(1), impl.Vec{Den: 1, At: []int{}}, 0}, {vecOf(1, 0), vecOf(1, 0), 0}, {vecOf(6, 2, 3), vecOf(6, 2, 3), 0},
		{vecOf(1, 1, 9), vecOf(1, 2, 0), -1}, {vecOf(1, -1, 9), vecOf(1, 1, 0), -1}, {vecOf(1, -2, 0), vecOf(1, -1, -9), -1}, {vecOf(1, 0, 0), vecOf(1, 0, 1), -1}, {vecOf(1, 5, 5, -1), vecOf(1, 5, 5, 0), -1}, {vecOf(1, 1, 1, 1, 1, 1, 1, 1, 1), vecOf(1, 1, 1, 1, 1, 1, 1, 1, 2), -1}, {vecOf(1, 0, 1, 0), vecOf(1, 1, 0, 0), -1},
		{vecOf(3, 1), vecOf(2, 1), -1}, {vecOf(2, -1), vecOf(3, -1), -1}, {vecOf(2, 3, 1), vecOf(1, 2, 0), -1}, {vecOf(2, 2, 1), vecOf(1, 1, 1), -1}, {vecOf(2, 2, -1), vecOf(3, 3, -1), -1}, {vecOf(3, 6, 1), vecOf(2, 4, 1), -1}, {vecOf(5, 3), vecOf(2, 3), -1}, {vecOf(720, 1), vecOf(719, 1), -1}, {vecOf(720, 719), vecOf(1, 1), -1}, {vecOf(719, up), vecOf(1, up), -1}, {vecOf(1, -up), vecOf(719, -up), -1}, {vecOf(1, -up), vecOf(1, up), -1}, {vecOf(719, up, up-1), vecOf(719, up, up), -1},
		{vecOf(1), vecOf(1, 0), 2}, {vecOf(1, 0), vecOf(1, 0, 0), 2}, {vecOf(1, 3), vecOf(1, 2, 1), 2}, {vecOf(1, manyInts(impl.MaxLen, 0)...), vecOf(1, manyInts(impl.MaxLen-1, 0)...), 2},
	} {
		back := -c.want
		if c.want == 2 {
			back = 2
		}
		if got, turned := impl.VecCmp(c.a, c.b), impl.VecCmp(c.b, c.a); got != c.want || turned != back {
			t.Errorf("VecCmp of %v and %v: %d, and turned %d, wanted %d", c.a, c.b, got, turned, c.want)
		}
	}
}

func TestVecsAreInOneOrder(t *testing.T) {
	seen := map[int]int{}
	for _, p := range vecPairs() {
		got, want := impl.VecCmp(p[0], p[1]), orderByValues(p[0], p[1])
		if seen[want]++; got != want || impl.VecCmp(p[1], p[0]) != -want {
			t.Errorf("VecCmp of %v: %d, wanted %d", p, got, want)
		}
		if sameVec(p[0], p[1]) != (got == 0) {
			t.Errorf("%v are alike just where their values are", p)
		}
		// The same beginning, so that they part behind it.
		if n := len(p[0].At); n > 1 {
			a, b := slices.Clone(p[0].At), slices.Clone(p[1].At)
			copy(a, manyInts(n-1, p[0].Den))
			copy(b, manyInts(n-1, p[1].Den))
			x, xOk := impl.VecMake(a, p[0].Den)
			y, yOk := impl.VecMake(b, p[1].Den)
			if !xOk || !yOk || impl.VecCmp(x, y) != orderByValues(x, y) {
				t.Errorf("VecCmp of %v and %v: %d, wanted %d", x, y, impl.VecCmp(x, y), orderByValues(x, y))
			}
		}
	}
	if seen[-1] < 100 || seen[0] < 100 || seen[1] < 100 {
		t.Errorf("too few of a kind: %v", seen)
	}
}

func TestVecTextAtEdges(t *testing.T) {
	const up = impl.MaxUp
	three := []string{"m", "s", "kg"}
	for _, c := range []struct {
		v     impl.Vec
		names []string
		want  string
	}{
		{vecOf(1), nil, "1"}, {vecOf(1), []string{}, "1"}, {vecOf(1, 0), []string{"m"}, "1"}, {impl.Nought(3), three, "1"}, {impl.Nought(impl.MaxLen), slices.Repeat([]string{"x"}, impl.MaxLen), "1"},
		{vecOf(1, 1), []string{"m"}, "m"}, {vecOf(1, -1), []string{"m"}, "m^-1"}, {vecOf(1, 2), []string{"m"}, "m^2"}, {vecOf(2, 1), []string{"m"}, "m^1/2"}, {vecOf(2, -1), []string{"m"}, "m^-1/2"}, {vecOf(720, 9-up), []string{"m"}, "m^-99991/720"}, {vecOf(720, 9-up, 720), []string{"m", "s"}, "m^-99991/720 s"}, {vecOf(719, up), []string{"m"}, "m^100000/719"}, {vecOf(1, up), []string{"m"}, "m^100000"}, {vecOf(1, -up), []string{"m"}, "m^-100000"},
		{vecOf(1, 1, 1, 1), three, "m s kg"}, {vecOf(1, 0, 0, 1), three, "kg"}, {vecOf(1, 1, 0, 0), three, "m"}, {vecOf(1, 1, 0, 1), three, "m kg"}, {vecOf(1, 0, -2, 0), three, "s^-2"}, {vecOf(1, 1, -2, 0), three, "m s^-2"}, {vecOf(1, 3, -1, 10), three, "m^3 s^-1 kg^10"},
		{vecOf(6, 6, 3, -2), three, "m s^1/2 kg^-1/3"}, {vecOf(6, 12, -6, 1), three, "m^2 s^-1 kg^1/6"}, {vecOf(6, -18, 9, 4), three, "m^-3 s^3/2 kg^2/3"}, {vecOf(6, 0, 5, 0), three, "s^5/6"}, {vecOf(2, 2, 0, 1), three, "m kg^1/2"},
		{vecOf(1, 1, 2, 3), []string{"a", "a", "a"}, "a a^2 a^3"}, {vecOf(1, 2), []string{"abcdefghij_1"}, "abcdefghij_1^2"}, {vecOf(1, 1), []string{"abcdefghij_1"}, "abcdefghij_1"},
		{vecOf(2, 1, 2, 3, 4, 5, 6, 7, 8), []string{"a", "b", "c", "d", "e", "f", "g", "h"}, "a^1/2 b c^3/2 d^2 e^5/2 f^3 g^7/2 h^4"},
	} {
		if got := impl.VecText(c.v, c.names); got != c.want {
			t.Errorf("VecText of %v and %v: %q, wanted %q", c.v, c.names, got, c.want)
		}
	}
}

func TestVecTextOfWrongArguments(t *testing.T) {
	three := []string{"m", "s", "kg"}
	for _, v := range []impl.Vec{impl.Nought(3), impl.UnitVec(3, 1), vecOf(6, 6, 3, -2)} {
		for _, names := range [][]string{nil, {}, three[:1], three[:2], {"m", "s", "kg", "A"}, slices.Repeat([]string{"m"}, 9), slices.Repeat([]string{"m"}, 1<<16)} {
			if got := impl.VecText(v, names); got != "" {
				t.Errorf("VecText of %v and %d names: %q", v, len(names), got)
			}
		}
	}
	if impl.VecText(vecOf(1), []string{"m"}) != "" || impl.VecText(vecOf(1), []string{""}) != "" || impl.VecText(impl.Vec{}, nil) != "" {
		t.Error("of no values")
	}
	// A name that isn't one counts at each place, also where the value is 0.
	for _, wrong := range []string{"", " ", "1", "1m", "_m", "m ", " m", "m^2", "m s", "m-", "é", "mé", "\xff", "m\xff", "m\x00", "abcdefghij_12", strings.Repeat("m", 5000)} {
		for place := range three {
			names := slices.Clone(three)
			names[place] = wrong
			for _, v := range []impl.Vec{impl.Nought(3), impl.UnitVec(3, 0), impl.UnitVec(3, 1), impl.UnitVec(3, 2), vecOf(6, 6, 3, -2)} {
				if got := impl.VecText(v, names); got != "" {
					t.Errorf("VecText of %v and %q: %q", v, names, got)
				}
			}
		}
	}
	for _, v := range wrongVecs() {
		names := slices.Repeat([]string{"m"}, len(v.At))
		if got := impl.VecText(v, names); got != "" {
			t.Errorf("VecText of %v, which isn't right: %q", v, got)
		}
	}
}

// textByWords is VecText of a right one and as many names.
func textByWords(v impl.Vec, names []string) string {
	var words []string
	for i, value := range vecValues(v) {
		switch {
		case value.Sign() == 0:
		case value.Cmp(big.NewRat(1, 1)) == 0:
			words = append(words, names[i])
		default:
			words = append(words, names[i]+"^"+value.RatString())
		}
	}
	if len(words) == 0 {
		return "1"
	}
	return strings.Join(words, " ")
}

func TestTextsOfManyVecs(t *testing.T) {
	names := []string{"m", "s", "kg", "A", "K", "mol", "cd", "bit"}
	for _, p := range vecPairs() {
		for _, v := range p {
			if got, want := impl.VecText(v, names[:len(v.At)]), textByWords(v, names); got != want {
				t.Errorf("VecText of %v: %q, wanted %q", v, got, want)
			}
		}
	}
}

func TestWrongVecsAreRefused(t *testing.T) {
	for _, wrong := range wrongVecs() {
		others := []impl.Vec{vecOf(1, slices.Repeat([]int{0}, len(wrong.At))...), vecOf(1), vecOf(2, 1), impl.UnitVec(impl.MaxLen, 0)}
		for _, other := range append(others, wrongVecs()...) {
			got, ok := impl.VecAdd(wrong, other)
			refusesVec(t, "VecAdd", []impl.Vec{wrong, other}, got, ok)
			got, ok = impl.VecAdd(other, wrong)
			refusesVec(t, "VecAdd", []impl.Vec{other, wrong}, got, ok)
			if impl.VecCmp(wrong, other) != 2 || impl.VecCmp(other, wrong) != 2 {
				t.Errorf("VecCmp of %v and %v: %d %d", wrong, other, impl.VecCmp(wrong, other), impl.VecCmp(other, wrong))
			}
		}
		for _, s := range [][2]int{{0, 1}, {1, 1}, {2, 1}, {1, 2}, {-1, 3}, {0, 0}, {wrong.Den, 1}, {impl.MaxSmall, impl.MaxSmall}, {math.MinInt, math.MinInt}} {
			got, ok := impl.VecScale(wrong, s[0], s[1])
			refusesVec(t, "VecScale", []any{wrong, s}, got, ok)
		}
	}
}

// roomyVec is the same one with room behind At that is filled.
func roomyVec(v impl.Vec, number int) impl.Vec {
	n := len(v.At)
	return impl.Vec{Den: v.Den, At: append(slices.Clone(v.At), manyInts(9, number)...)[:n]}
}

func vecRoom(v impl.Vec) []int {
	return v.At[:cap(v.At)]
}

// vecCalls are all that tell a Vec, as functions of two.
func vecCalls() map[string]func(a impl.Vec, b impl.Vec) (impl.Vec, bool) {
	calls := map[string]func(a impl.Vec, b impl.Vec) (impl.Vec, bool){
		"VecAdd":  impl.VecAdd,
		"Nought":  func(a impl.Vec, _ impl.Vec) (impl.Vec, bool) { return impl.Nought(len(a.At)), true },
		"UnitVec": func(a impl.Vec, _ impl.Vec) (impl.Vec, bool) { return impl.UnitVec(len(a.At), 0), true },
		"rest": func(a impl.Vec, b impl.Vec) (impl.Vec, bool) {
			impl.VecOk(a)
			impl.VecCmp(a, b)
			impl.VecText(a, slices.Repeat([]string{"m"}, len(a.At)))
			return impl.Vec{}, true
		},
	}
	for _, den := range []int{-6, -1, 0, 1, 2, 6, impl.MaxSmall, math.MinInt} {
		calls["VecMake by "+strconv.Itoa(den)] = func(a impl.Vec, _ impl.Vec) (impl.Vec, bool) { return impl.VecMake(a.At, den) }
		calls["VecScale by "+strconv.Itoa(den)] = func(a impl.Vec, _ impl.Vec) (impl.Vec, bool) { return impl.VecScale(a, den, 1) }
		calls["VecScale over "+strconv.Itoa(den)] = func(a impl.Vec, _ impl.Vec) (impl.Vec, bool) { return impl.VecScale(a, 1, den) }
	}
	return calls
}

func checkVecMemory(t *testing.T, name string, call func(a impl.Vec, b impl.Vec) (impl.Vec, bool), a impl.Vec, b impl.Vec) {
	t.Helper()
	keptA, keptB := slices.Clone(vecRoom(a)), slices.Clone(vecRoom(b))
	same := func() bool { return slices.Equal(vecRoom(a), keptA) && slices.Equal(vecRoom(b), keptB) }
	first, _ := call(a, b)
	again, _ := call(a, b)
	if !same() {
		t.Fatalf("%s writes into %v or %v", name, a, b)
	}
	for i := range vecRoom(first) {
		vecRoom(first)[i] ^= 0x55555555
	}
	if !same() {
		t.Fatalf("%s of %v and %v shares memory with them", name, a, b)
	}
	if last, _ := call(a, b); !sameVec(last, again) {
		t.Fatalf("%s of %v and %v hangs on an earlier answer", name, a, b)
	}
	// What is answered isn't changed when the arguments are.
	for _, room := range [][]int{vecRoom(a), vecRoom(b)} {
		for i := range room {
			room[i] = 77
		}
	}
	if want, _ := call(vecOf(a.Den, keptA[:len(a.At)]...), vecOf(b.Den, keptB[:len(b.At)]...)); !sameVec(again, want) {
		t.Fatalf("%s of %v and %v keeps them", name, a, b)
	}
}

func TestVecsAreNeitherKeptNorWrittenInto(t *testing.T) {
	list := []impl.Vec{vecOf(1), vecOf(1, 0), vecOf(1, 6), vecOf(1, -12, 6, 0), vecOf(6, 1, 3, 2), vecOf(2, 1, 0, -1), vecOf(1, manyInts(impl.MaxLen, impl.MaxUp)...), vecOf(720, 1, 2, 3, 4, 5, 6, 7, 8), vecOf(3, 1)}
	list = append(list, wrongVecs()...)
	for name, call := range vecCalls() {
		for _, a := range list {
			for _, b := range list {
				for _, number := range []int{0, 7, math.MinInt} {
					checkVecMemory(t, name, call, roomyVec(a, number), roomyVec(b, number))
				}
			}
			// The two arguments are one and the same.
			x := roomyVec(a, 7)
			got, ok := call(x, x)
			want, wantOk := call(a, roomyVec(a, 0))
			if ok != wantOk || !sameVec(got, want) {
				t.Errorf("%s of %v and itself: %v %v, wanted %v", name, a, got, ok, want)
			}
			checkVecMemory(t, name, call, x, x)
		}
	}
}

// Names are made over bytes that are written anew, in a list with room behind it.
func TestNamesOfPowersAreNeitherKeptNorWrittenInto(t *testing.T) {
	for _, v := range []impl.Vec{impl.Nought(3), impl.UnitVec(3, 0), impl.UnitVec(3, 1), impl.UnitVec(3, 2), vecOf(1, 1, 1, 1), vecOf(6, 6, 3, -2), vecOf(1, 0, 0, 5), vecOf(0, 1, 1, 1)} {
		bytes := []byte("meterseckgbehind")
		cut := func(from int, to int) string { return unsafe.String(&bytes[from], to-from) }
		room := []string{cut(0, 5), cut(5, 8), cut(8, 10), "spare", "room"}
		names := room[:3]
		kept := []string{"meter", "sec", "kg", "spare", "room"}
		text := impl.VecText(v, names)
		if !slices.Equal(room, kept) || string(bytes) != "meterseckgbehind" {
			t.Errorf("the names of %v are written into: %q", v, room)
		}
		for _, name := range names {
			if inside(text, name) {
				t.Errorf("VecText of %v shares memory with %q", v, name)
			}
		}
		for i := range bytes {
			bytes[i] = 'x'
		}
		if want := impl.VecText(v, kept[:3]); text != want {
			t.Errorf("VecText of %v: %q, wanted %q: a name is kept", v, text, want)
		}
	}
}

func TestFunctionsOfPowersAnswerAnything(t *testing.T) {
	r := rand.New(rand.NewSource(47))
	edges := []int{math.MinInt, math.MinInt + 1, -impl.MaxSmall - 1, -impl.MaxSmall, -impl.MaxUp - 1, -impl.MaxUp, -impl.MaxDen, -2, -1, 0, 1, 2, 3, 6, impl.MaxLen, impl.MaxDen, impl.MaxDen + 1, impl.MaxUp, impl.MaxUp + 1, impl.MaxSmall, impl.MaxSmall + 1, math.MaxInt}
	number := func() int { return edges[r.Intn(len(edges))] }
	anyVec := func() impl.Vec {
		v := vecOf(number())
		for range r.Intn(impl.MaxLen + 3) {
			v.At = append(v.At, number())
		}
		return v
	}
	small := func(n int) bool { return -impl.MaxSmall <= n && n <= impl.MaxSmall }
	for range 40000 {
		a, b, p, q := anyVec(), anyVec(), number(), number()
		rightA, rightB := rightByWords(a), rightByWords(b)
		if impl.VecOk(a) != rightA {
			t.Errorf("VecOk of %v: %v", a, !rightA)
		}
		both := rightA && rightB && len(a.At) == len(b.At)
		if got, ok := impl.VecAdd(a, b); both {
			tellsVec(t, "VecAdd", []impl.Vec{a, b}, got, ok, valuesAdded(a, b))
		} else {
			refusesVec(t, "VecAdd", []impl.Vec{a, b}, got, ok)
		}
		if got := impl.VecCmp(a, b); both && got != orderByValues(a, b) || !both && got != 2 {
			t.Errorf("VecCmp of %v and %v: %d", a, b, got)
		}
		if got, ok := impl.VecScale(a, p, q); rightA && small(p) && small(q) && q != 0 {
			tellsVec(t, "VecScale", []any{a, p, q}, got, ok, valuesScaled(a, p, q))
		} else {
			refusesVec(t, "VecScale", []any{a, p, q}, got, ok)
		}
		beyond := slices.ContainsFunc(a.At, func(n int) bool { return !small(n) })
		if got, ok := impl.VecMake(a.At, q); !beyond && len(a.At) <= impl.MaxLen && small(q) && q != 0 {
			tellsVec(t, "VecMake", []any{a.At, q}, got, ok, valuesOf(a.At, q))
		} else {
			refusesVec(t, "VecMake", []any{a.At, q}, got, ok)
		}
		if got := impl.VecText(a, slices.Repeat([]string{"m"}, len(a.At))); rightA != (got != "") {
			t.Errorf("VecText of %v: %q", a, got)
		}
	}
}
