package tests

import (
	"math"
	"math/big"
	"math/rand"
	"slices"
	"testing"

	"loop.example/g00676/impl"
)

// inStepsByWords asks of each row for all that is told of it.
func inStepsByWords(m impl.Mat) bool {
	if !matByWords(m) {
		return false
	}
	list, before, noughtsSeen := numbersOf(m), -1, false
	for r, row := range list {
		head := slices.IndexFunc(row, func(n *big.Int) bool { return n.Sign() != 0 })
		if head < 0 {
			noughtsSeen = true
			continue
		}
		if noughtsSeen || head <= before || row[head].Sign() < 0 {
			return false
		}
		for _, above := range list[:r] {
			if above[head].Sign() < 0 || above[head].Cmp(row[head]) >= 0 {
				return false
			}
		}
		before = head
	}
	return true
}

// shortByWords is for what the rounds on rows are begun with.
func shortByWords(m impl.Mat) bool {
	return matByWords(m) && !slices.ContainsFunc(m.At, func(x impl.Big) bool { return len(x.Limbs) > 1 })
}

// stepsByWords goes by the three steps that the document names, on two matrices apart.
func stepsByWords(m impl.Mat) (numbers, numbers) {
	h, u := numbersOf(m), numbersOf(impl.One(m.Rows))
	p := 0
	for c := 0; c < m.Cols && p < m.Rows; c++ {
		if !clearedByWords(h, u, p, c) {
			continue
		}
		if h[p][c].Sign() < 0 {
			for _, list := range []numbers{h, u} {
				for i, n := range list[p] {
					list[p][i] = new(big.Int).Neg(n)
				}
			}
		}
		for r := range p {
			reducedByWords(h, u, r, p, c)
		}
		p++
	}
	return h, u
}

// clearedByWords has the first two steps, over and over; false where the column has no other numbers than noughts.
func clearedByWords(h numbers, u numbers, p int, c int) bool {
	for {
		least, below := -1, false
		for r := p; r < len(h); r++ {
			if h[r][c].Sign() != 0 && (least < 0 || h[r][c].CmpAbs(h[least][c]) < 0) {
				least = r
			}
		}
		if least < 0 {
			return false
		}
		h[p], h[least], u[p], u[least] = h[least], h[p], u[least], u[p]
		for r := p + 1; r < len(h); r++ {
			if h[r][c].Sign() != 0 {
				reducedByWords(h, u, r, p, c)
				below = below || h[r][c].Sign() != 0
			}
		}
		if !below {
			return true
		}
	}
}

// reducedByWords: the library's quotient has a rest of 0 or more, too.
func reducedByWords(h numbers, u numbers, r int, p int, c int) {
	times, _ := new(big.Int).DivMod(h[r][c], h[p][c], new(big.Int))
	for _, list := range []numbers{h, u} {
		for i, n := range list[p] {
			list[r][i] = new(big.Int).Sub(list[r][i], new(big.Int).Mul(times, n))
		}
	}
}

func hermiteByWords(m impl.Mat) (impl.Mat, impl.Mat, bool) {
	if !shortByWords(m) {
		return impl.Mat{}, impl.Mat{}, false
	}
	h, u := stepsByWords(m)
	left, ok := matOfNumbers(m.Rows, m.Cols, h)
	right, fits := matOfNumbers(m.Rows, m.Rows, u)
	if !ok || !fits {
		return impl.Mat{}, impl.Mat{}, false
	}
	return left, right, true
}

func unimodularByWords(m impl.Mat) bool {
	return matByWords(m) && m.Rows == m.Cols && determinant(numbersOf(m)).CmpAbs(big.NewInt(1)) == 0
}

// inverseByWords goes by the determinants of all that is left without a row and a column.
func inverseByWords(m impl.Mat) (impl.Mat, bool) {
	if !unimodularByWords(m) {
		return impl.Mat{}, false
	}
	list := numbersOf(m)
	det, inverse := determinant(list), make(numbers, m.Rows)
	for r := range list {
		for c := range list {
			part := numbers{}
			for i, row := range list {
				if i != c {
					part = append(part, slices.Concat(row[:r], row[r+1:]))
				}
			}
			minor := determinant(part)
			if (r+c)%2 == 1 {
				minor.Neg(minor)
			}
			inverse[r] = append(inverse[r], minor.Mul(minor, det))
		}
	}
	return matOfNumbers(m.Rows, m.Rows, inverse)
}

// checkSteps holds Hermite and IsHermite against the words, and promise 11 against what is told; it tells whether there are H and U.
func checkSteps(t *testing.T, m impl.Mat) bool {
	t.Helper()
	if got := impl.IsHermite(m); got != inStepsByWords(m) {
		t.Errorf("IsHermite of %s: %v", clipped(m), got)
	}
	h, u, ok := impl.Hermite(m)
	wantH, wantU, wantOk := hermiteByWords(m)
	if ok != wantOk || !sameMat(h, wantH) || !sameMat(u, wantU) {
		t.Errorf("Hermite of %s: %s and %s %v, wanted %s and %s %v", clipped(m), clipped(h), clipped(u), ok, clipped(wantH), clipped(wantU), wantOk)
	}
	if !ok {
		return false
	}
	product, fits := productByWords(u, m)
	if !fits || !sameMat(product, h) || !inStepsByWords(h) || !impl.IsHermite(h) || !unimodularByWords(u) || !impl.Unimodular(u) {
		t.Errorf("Hermite of %s: %s and %s don't hold", clipped(m), clipped(h), clipped(u))
	}
	return true
}

// checkInverse holds Unimodular and Inverse against the words, and tells whether there is an inverse.
func checkInverse(t *testing.T, m impl.Mat) bool {
	t.Helper()
	if got := impl.Unimodular(m); got != unimodularByWords(m) {
		t.Errorf("Unimodular of %s: %v", clipped(m), got)
	}
	w, ok := impl.Inverse(m)
	want, wantOk := inverseByWords(m)
	if ok != wantOk || !sameMat(w, want) {
		t.Errorf("Inverse of %s: %s %v, wanted %s %v", clipped(m), clipped(w), ok, clipped(want), wantOk)
	}
	if !ok {
		return false
	}
	left, leftOk := productByWords(w, m)
	right, rightOk := productByWords(m, w)
	if one := impl.One(m.Rows); !leftOk || !rightOk || !sameMat(left, one) || !sameMat(right, one) {
		t.Errorf("Inverse of %s: %s doesn't make One from both sides", clipped(m), clipped(w))
	}
	return true
}

func TestRowsInSteps(t *testing.T) {
	for _, c := range []struct {
		m    string
		want bool
	}{
		{"0", true}, {"1", true}, {"7", true}, {"-1", false}, {"0 0 0", true}, {"0, 0, 0", true}, {"0 0, 0 0", true},
		{"0 5", true}, {"0 -5", false}, {"0 0 1", true}, {"5 -7 9", true}, {"5 -7, 0 0", true}, {"-5 7, 0 0", false},
		// A row of noughts ahead of another one.
		{"0 0, 1 0", false}, {"0 0, 0 1", false}, {"1 0, 0 0", true}, {"1 0, 0 0, 0 0", true}, {"1 0, 0 0, 0 1", false}, {"0, 1", false}, {"0, 0, 1", false}, {"1, 0, 0", true}, {"1, 0, 1", false},
		// Heads in one column, and to the left of the one above.
		{"1 0, 1 0", false}, {"1, 1", false}, {"2 3, 1 4", false}, {"0 1, 0 2", false}, {"0 2, 0 1", false}, {"0 3, 0 1", false}, {"0 1, 1 0", false}, {"0 0 1, 0 1 0", false}, {"0 0 1, 1 0 0", false}, {"1 0 0, 0 0 1, 0 1 0", false},
		{"1 0, 0 1", true}, {"1 0 0, 0 0 1", true}, {"0 1 0, 0 0 1", true}, {"0 2 1, 0 0 5, 0 0 0", true},
		// A head below 0 in a lower row.
		{"1 0, 0 -3", false}, {"1 2, 0 -3", false}, {"1 -4, 0 -3", false}, {"2 0 0, 0 0 -1", false},
		// A number above a head.
		{"1 -1, 0 3", false}, {"1 0, 0 3", true}, {"1 1, 0 3", true}, {"1 2, 0 3", true}, {"1 3, 0 3", false}, {"1 4, 0 3", false}, {"1 -3, 0 3", false}, {"1 1, 0 1", false}, {"1 0, 0 1", true},
		{"1 0 2, 0 1 2, 0 0 3", true}, {"1 0 3, 0 1 2, 0 0 3", false}, {"1 0 2, 0 1 3, 0 0 3", false}, {"1 0 -1, 0 1 2, 0 0 3", false}, {"1 0 2, 0 1 -1, 0 0 3", false}, {"4 3 2, 0 4 2, 0 0 3", true}, {"4 4 2, 0 4 2, 0 0 3", false},
		// What stands in columns without a head is no matter.
		{"1 -9 0, 0 0 1", true}, {"1 9 0, 0 0 1", true}, {"1 0 -9, 0 1 99", true}, {"2 1 5 -5, 0 3 -7 7", true}, {"0 2 -8 1 4, 0 0 0 2 -4", true}, {"0 2 -8 2 4, 0 0 0 2 -4", false},
		// Numbers of any size.
		{"2^256-1 0, 0 2^256-1", true}, {"1 2^256-2, 0 2^256-1", true}, {"1 2^256-1, 0 2^256-1", false}, {"1 2^256-1, 0 2^256-2", false}, {"-2^256+1 0", false}, {"2^64 2^32, 0 2^33", true}, {"2^64 2^33, 0 2^33", false}, {"2^64 2^33, 0 2^32", false}, {"2^64 -2^32, 0 2^33", false}, {"1 2^32-1, 0 2^32", true}, {"1 2^32+1, 0 2^32", false},
	} {
		m := matOfText(c.m)
		checkSteps(t, m)
		if got := impl.IsHermite(m); got != c.want {
			t.Errorf("IsHermite of %s: %v", c.m, got)
		}
	}
	for n := range 9 {
		for _, m := range []impl.Mat{{Rows: n}, {Cols: n}, impl.One(n), filledMat(n, 8, impl.Big{}), filledMat(8, n, impl.Big{})} {
			checkSteps(t, m)
			if !impl.IsHermite(m) {
				t.Errorf("IsHermite of %v: false", m)
			}
		}
	}
}

// wrongMats aren't right; some of them would be in steps, or unimodular, but for that.
func wrongMats() []impl.Mat {
	one := impl.FromInt(1)
	list := []impl.Mat{
		{Rows: -1}, {Cols: -1}, {Rows: -1, Cols: -1, At: []impl.Big{one}}, {Rows: 9}, {Cols: 9}, {Rows: 9, Cols: 9}, {Rows: 1, Cols: 1}, {At: []impl.Big{one}}, {Rows: 1, Cols: 1, At: []impl.Big{one, {}}}, {Rows: 1, Cols: 2, At: []impl.Big{one}}, {Rows: 2, Cols: 2, At: []impl.Big{one, {}, {}}},
		filledMat(9, 1, impl.Big{}), filledMat(1, 9, impl.Big{}), filledMat(9, 9, impl.Big{}), {Rows: math.MinInt, Cols: math.MinInt}, {Rows: math.MaxInt, Cols: 0}, {Rows: 1 << 32, Cols: 1 << 32}, {Rows: 0, Cols: math.MaxInt},
		{Rows: 9, Cols: 1, At: append([]impl.Big{one}, make([]impl.Big, 8)...)}, {Rows: 1, Cols: 9, At: append([]impl.Big{one}, make([]impl.Big, 8)...)},
		filledMat(1, 1, bigOfLimbs(false, manyLimbs(9, 1)...)), filledMat(1, 1, bigOfLimbs(true, manyLimbs(9, ones)...)),
	}
	nine := impl.Mat{Rows: 9, Cols: 9, At: make([]impl.Big, 81)}
	for i := range 9 {
		nine.At[i*10] = one
	}
	list = append(list, nine)
	for _, x := range wrongBigs() {
		list = append(list, filledMat(1, 1, x), impl.Mat{Rows: 1, Cols: 2, At: []impl.Big{one, x}}, impl.Mat{Rows: 2, Cols: 2, At: []impl.Big{one, x, {}, one}}, impl.Mat{Rows: 2, Cols: 2, At: []impl.Big{one, {}, x, one}}, impl.Mat{Rows: 2, Cols: 2, At: []impl.Big{one, {}, {}, x}}, impl.Mat{Rows: 2, Cols: 1, At: []impl.Big{one, x}})
	}
	return list
}

func TestStepsOfWrongMatrices(t *testing.T) {
	for _, m := range wrongMats() {
		if matByWords(m) {
			t.Fatalf("it is right: %s", clipped(m))
		}
		checkSteps(t, m)
		checkInverse(t, m)
		h, u, ok := impl.Hermite(m)
		w, fits := impl.Inverse(m)
		if impl.IsHermite(m) || ok || !isZeroMat(h) || !isZeroMat(u) || impl.Unimodular(m) || fits || !isZeroMat(w) {
			t.Errorf("%s isn't right: %s and %s %v, inverse %s %v", clipped(m), clipped(h), clipped(u), ok, clipped(w), fits)
		}
	}
}

func TestHermite(t *testing.T) {
	for _, c := range []struct{ m, h, u string }{
		{"2 4, 3 5", "1 1\n0 2\n", "-1 1\n3 -2\n"}, {"4 1", "4 1\n", "1\n"}, {"1 5, 0 3", "1 2\n0 3\n", "1 -1\n0 1\n"},
		{"0", "0\n", "1\n"}, {"5", "5\n", "1\n"}, {"0 0, 0 0", "0 0\n0 0\n", "1 0\n0 1\n"}, {"0 0 0", "0 0 0\n", "1\n"}, {"0, 0, 0", "0\n0\n0\n", "1 0 0\n0 1 0\n0 0 1\n"},
		// One row below 0.
		{"-5", "5\n", "-1\n"}, {"-3 6 0 -2", "3 -6 0 2\n", "-1\n"}, {"0 -1 0", "0 1 0\n", "-1\n"},
		// A pivot below 0 that stays, and one that is exchanged.
		{"-2, 4", "2\n0\n", "-1 0\n2 1\n"}, {"4, -2", "2\n0\n", "0 -1\n1 2\n"}, {"0 -3, 0 6", "0 3\n0 0\n", "-1 0\n2 1\n"}, {"-1 7, 1 -7", "1 -7\n0 0\n", "-1 0\n1 1\n"}, {"5, -1", "1\n0\n", "0 -1\n1 5\n"},
		// Of several of one size the upper one is taken, with either sign.
		{"3, 3", "3\n0\n", "1 0\n-1 1\n"}, {"3, -3", "3\n0\n", "1 0\n1 1\n"}, {"-3, 3", "3\n0\n", "-1 0\n1 1\n"}, {"-3, -3", "3\n0\n", "-1 0\n-1 1\n"},
		{"6, 3, -3", "3\n0\n0\n", "0 1 0\n1 -2 0\n0 1 1\n"}, {"6, -3, 3", "3\n0\n0\n", "0 -1 0\n1 2 0\n0 1 1\n"}, {"0, -3, 3", "3\n0\n0\n", "0 -1 0\n1 0 0\n0 1 1\n"}, {"3, 3, -3", "3\n0\n0\n", "1 0 0\n-1 1 0\n1 0 1\n"},
		{"2 1, -2 0", "2 0\n0 1\n", "0 -1\n1 1\n"}, {"-2 0, 2 1", "2 0\n0 1\n", "-1 0\n1 1\n"},
		// Numbers below 0 beneath a pivot above and below 0: each rest is 0 or more.
		{"3, -7", "1\n0\n", "-2 -1\n7 3\n"}, {"-3, -7", "1\n0\n", "-5 2\n7 -3\n"}, {"-3, 7", "1\n0\n", "2 1\n7 3\n"}, {"3, 7", "1\n0\n", "-2 1\n7 -3\n"}, {"-7, 3", "1\n0\n", "-1 -2\n3 7\n"}, {"2, -1", "1\n0\n", "0 -1\n1 2\n"},
		// Rows that hang on each other.
		{"1 2, 2 4", "1 2\n0 0\n", "1 0\n-2 1\n"}, {"2 4, 3 6", "1 2\n0 0\n", "-1 1\n3 -2\n"}, {"1 2 3, 4 5 6, 7 8 9", "1 2 3\n0 3 6\n0 0 0\n", "1 0 0\n4 -1 0\n1 -2 1\n"}, {"0 0, 1 2", "1 2\n0 0\n", "0 1\n1 0\n"}, {"0 0, 0 0, 0 2", "0 2\n0 0\n0 0\n", "0 0 1\n0 1 0\n1 0 0\n"},
		// A column of noughts ahead of others, or between them.
		{"0 2, 0 3", "0 1\n0 0\n", "-1 1\n3 -2\n"}, {"0 0 4 1, 0 0 6 0", "0 0 2 2\n0 0 0 3\n", "2 -1\n3 -2\n"}, {"2 0 1, 0 0 3", "2 0 1\n0 0 3\n", "1 0\n0 1\n"}, {"2 0 7, 0 0 3", "2 0 1\n0 0 3\n", "1 -2\n0 1\n"},
		// More rows than columns, and more columns than rows.
		{"1, 2, 3", "1\n0\n0\n", "1 0 0\n-2 1 0\n-3 0 1\n"}, {"6, 10, 15", "1\n0\n0\n", "1 1 -1\n-5 -3 4\n5 0 -2\n"}, {"2 0, 0 3, 5 7", "1 0\n0 1\n0 0\n", "-37 -35 15\n5 5 -2\n-15 -14 6\n"}, {"2 3 5, 3 2 7", "1 4 3\n0 5 1\n", "2 -1\n3 -2\n"}, {"6 10 15", "6 10 15\n", "1\n"},
		// What stands above a head.
		{"1 -1, 0 3", "1 2\n0 3\n", "1 1\n0 1\n"}, {"1 3, 0 3", "1 0\n0 3\n", "1 -1\n0 1\n"}, {"1 2, 0 -3", "1 2\n0 3\n", "1 0\n0 -1\n"}, {"1 -7, 0 -3", "1 2\n0 3\n", "1 -3\n0 -1\n"}, {"1 0 5, 0 1 7, 0 0 2", "1 0 1\n0 1 1\n0 0 2\n", "1 0 -2\n0 1 -3\n0 0 1\n"}, {"1 4 0, 0 3 5, 0 0 2", "1 1 1\n0 3 1\n0 0 2\n", "1 -1 3\n0 1 -2\n0 0 1\n"},
		// The greatest numbers with one Limb.
		{"2^32-1", "4294967295\n", "1\n"}, {"-2^32+1", "4294967295\n", "-1\n"}, {"2^32-1, 2^32-1", "4294967295\n0\n", "1 0\n-1 1\n"}, {"2^32-1 0, 0 2^32-1", "4294967295 0\n0 4294967295\n", "1 0\n0 1\n"}, {"2^32-1, 2^32-2", "1\n0\n", "1 -1\n-4294967294 4294967295\n"}, {"1 -2^32+1, 2^32-1 1", "1 18446744060824649731\n0 18446744065119617026\n", "-4294967294 1\n-4294967295 1\n"},
	} {
		m := matOfText(c.m)
		checkSteps(t, m)
		h, u, ok := impl.Hermite(m)
		if !ok || impl.MatText(h) != c.h || impl.MatText(u) != c.u {
			t.Errorf("Hermite of %s: %q and %q %v", c.m, impl.MatText(h), impl.MatText(u), ok)
		}
	}
}

func TestStepsOfNoNumbers(t *testing.T) {
	for n := range 9 {
		for _, m := range []impl.Mat{{Rows: n}, {Cols: n}, {Rows: n, At: []impl.Big{}}, filledMat(n, 8, impl.Big{}), filledMat(8, n, impl.Big{}), filledMat(n, n, impl.Big{})} {
			checkSteps(t, m)
			h, u, ok := impl.Hermite(m)
			if !ok || !sameMat(h, m) || !sameMat(u, impl.One(m.Rows)) {
				t.Errorf("Hermite of %v: %v and %v %v", m, h, u, ok)
			}
		}
	}
}

func TestStepsOfAllLittleMatrices(t *testing.T) {
	for _, c := range []struct{ rows, cols, least, most int }{{1, 1, -9, 9}, {1, 2, -4, 4}, {1, 3, -2, 2}, {2, 1, -12, 12}, {3, 1, -7, 7}, {4, 1, -3, 3}, {2, 2, -4, 4}, {2, 3, -1, 2}, {3, 2, -1, 2}, {3, 3, -1, 1}, {2, 4, -1, 1}, {4, 2, -1, 1}} {
		allMats(c.rows, c.cols, c.least, c.most, func(m impl.Mat) {
			if !checkSteps(t, m) {
				t.Errorf("Hermite of %v: refused", m)
			}
		})
	}
}

// Hermite tells just one matrix in steps for all rows that make the same: of those that are in steps, each one itself.
func TestStepsOfMatricesInStepsAlready(t *testing.T) {
	itself := func(m impl.Mat) {
		t.Helper()
		if !inStepsByWords(m) || !shortByWords(m) {
			return
		}
		h, u, ok := impl.Hermite(m)
		if !ok || !sameMat(h, m) || !sameMat(u, impl.One(m.Rows)) {
			t.Errorf("Hermite of %s, which is in steps: %s and %s %v", clipped(m), clipped(h), clipped(u), ok)
		}
	}
	for _, s := range []string{"7", "0", "0 5 -9", "1 2, 0 3", "2^32-1 -2^32+1 0, 0 0 2^32-1", "2^32-1 2^32-2, 0 2^32-1", "0 2 -8 1 4, 0 0 0 2 -4, 0 0 0 0 0", "4 3 2, 0 4 2, 0 0 3", "1, 0, 0, 0"} {
		if !impl.IsHermite(matOfText(s)) {
			t.Errorf("IsHermite of %s: false", s)
		}
		itself(matOfText(s))
	}
	r := rand.New(rand.NewSource(112))
	for range 1000 {
		h, _, ok := impl.Hermite(shortMat(r, chanceSide(r), chanceSide(r)))
		if ok {
			itself(h)
		}
	}
}

func TestStepsRefuseLongerNumbers(t *testing.T) {
	for _, s := range []string{"7", "1 0, 0 1", "0 0, 0 0", "1 2 3, 4 5 6", "1, 2, 3", "1 1 0, 0 2 0, 0 0 0"} {
		plain := matOfText(s)
		for at := range plain.At {
			for _, word := range []string{"2^32-1", "-2^32+1", "2^31", "2^32", "-2^32", "2^32+1", "2^33", "2^63", "2^64-1", "-2^64+1", "2^64", "-2^64", "2^256-1", "-2^256+1"} {
				m := impl.Mat{Rows: plain.Rows, Cols: plain.Cols, At: slices.Clone(plain.At)}
				m.At[at] = fromOracle(numberOfText(word))
				short := len(m.At[at].Limbs) <= 1
				h, u, ok := impl.Hermite(m)
				if checkSteps(t, m) != short || ok != short || !short && (!isZeroMat(h) || !isZeroMat(u)) {
					t.Errorf("Hermite of %s: %s and %s %v", clipped(m), clipped(h), clipped(u), ok)
				}
			}
		}
	}
}

const shortKinds = 7

// shortEntry has one Limb at the most.
func shortEntry(r *rand.Rand, kind int) impl.Big {
	sign := 1 - 2*r.Intn(2)
	switch kind {
	case 0:
		return impl.FromInt(r.Intn(7) - 3)
	case 1:
		return impl.FromInt(max(0, r.Intn(12)-9) * sign)
	case 2:
		return impl.FromInt(int(r.Uint32()) >> r.Intn(32) * sign)
	case 3:
		return impl.FromInt((ones - r.Intn(2)) * sign)
	case 4:
		return impl.FromInt(6 * (r.Intn(21) - 10))
	case 5:
		return impl.FromInt([]int{1134903170, 1836311903, 2971215073}[r.Intn(3)] * sign)
	}
	return impl.FromInt(int(r.Uint32()) * sign)
}

// shortMat has numbers of one Limb; in some rows hang on each other, stand in one row twice, or columns are noughts.
func shortMat(r *rand.Rand, rows int, cols int) impl.Mat {
	list, kind := make(numbers, rows), r.Intn(shortKinds)
	for i := range list {
		for range cols {
			list[i] = append(list[i], oracle(shortEntry(r, kind)))
		}
	}
	for range r.Intn(5) * min(rows, 1) {
		row, other, third := r.Intn(rows), list[r.Intn(rows)], list[r.Intn(rows)]
		var sum []*big.Int
		times, more := big.NewInt(int64(r.Intn(5)-2)), big.NewInt(int64(r.Intn(3)-1))
		for c := range cols {
			n := new(big.Int).Add(new(big.Int).Mul(times, other[c]), new(big.Int).Mul(more, third[c]))
			if n.BitLen() > 32 {
				n = other[c]
			}
			sum = append(sum, n)
		}
		list[row] = sum
	}
	if rows > 0 && cols > 0 && r.Intn(4) == 0 {
		c := r.Intn(cols)
		for _, row := range list {
			row[c] = new(big.Int)
		}
	}
	m, _ := matOfNumbers(rows, cols, list)
	return m
}

// changedOne is One after so many changes of rows, each of which could be taken back; no number has more than some bits.
func changedOne(r *rand.Rand, n int, changes int, size int) impl.Mat {
	list := numbersOf(impl.One(n))
	for range changes * min(n, 1) {
		row, other := r.Intn(n), r.Intn(n)
		times := big.NewInt(int64(r.Intn(9) - 4))
		switch {
		case r.Intn(4) == 0:
			list[row], list[other] = list[other], list[row]
		case row == other:
			times.SetInt64(-2)
			fallthrough
		default:
			var sum []*big.Int
			for c := range n {
				sum = append(sum, new(big.Int).Add(list[row][c], new(big.Int).Mul(times, list[other][c])))
			}
			if !slices.ContainsFunc(sum, func(n *big.Int) bool { return n.BitLen() > size }) {
				list[row] = sum
			}
		}
	}
	m, _ := matOfNumbers(n, n, list)
	return m
}

func TestStepsOfChanceMatrices(t *testing.T) {
	r := rand.New(rand.NewSource(113))
	seen := map[string]int{}
	for range 6000 {
		m := shortMat(r, chanceSide(r), chanceSide(r))
		told := checkSteps(t, m)
		switch rank := impl.RankOf(m); {
		case !told:
			seen["refused"]++
		case rank < m.Rows && m.Rows <= m.Cols:
			seen["rows hang on each other"]++
		case rank < m.Cols && m.Cols < m.Rows:
			seen["columns hang on each other"]++
		case m.Rows > m.Cols:
			seen["more rows"]++
		case m.Rows < m.Cols:
			seen["more columns"]++
		default:
			seen["as many"]++
		}
	}
	for _, kind := range []string{"refused", "rows hang on each other", "columns hang on each other", "more rows", "more columns", "as many"} {
		if seen[kind] < 30 {
			t.Error("too few of a kind:", seen)
		}
	}
}

func longest(list numbers) int {
	limbs := 0
	for _, row := range list {
		for _, n := range row {
			limbs = max(limbs, (n.BitLen()+31)/32)
		}
	}
	return limbs
}

// What H and U are made of is of any size in between: just what they are in the end is asked for.
func TestStepsThatAreTooGreat(t *testing.T) {
	r := rand.New(rand.NewSource(114))
	seen := map[string]int{}
	for _, sides := range [][2]int{{8, 8}, {7, 7}, {7, 8}, {5, 4}, {6, 5}, {6, 4}, {8, 7}, {8, 4}, {4, 3}} {
		for i := range 120 {
			m := impl.Mat{Rows: sides[0], Cols: sides[1]}
			for range m.Rows * m.Cols {
				x := impl.FromInt(int(r.Uint32()))
				x.Neg = i%2 == 0 && r.Intn(2) == 0 && len(x.Limbs) > 0
				m.At = append(m.At, x)
			}
			told := checkSteps(t, m)
			h, u := stepsByWords(m)
			left, right := longest(h), longest(u)
			if told != (left <= 8 && right <= 8) {
				t.Errorf("Hermite of %s: %v, where H has %d Limbs and U %d", clipped(m), told, left, right)
			}
			switch {
			case left == 8 && right < 8:
				seen["just H is at the limit"]++
			case left < 8 && right == 8:
				seen["just U is at the limit"]++
			case left == 9 && right <= 8:
				seen["just H is beyond"]++
			case left <= 8 && right == 9:
				seen["just U is one beyond"]++
			case left <= 8 && right > 9:
				seen["just U is beyond"]++
			}
		}
	}
	for _, kind := range []string{"just H is at the limit", "just U is at the limit", "just H is beyond", "just U is one beyond", "just U is beyond"} {
		if seen[kind] < 5 {
			t.Error("too few of a kind:", kind, seen)
		}
	}
}

func TestRowsMadeOfOthersHaveTheSameSteps(t *testing.T) {
	r := rand.New(rand.NewSource(115))
	same, changed := 0, 0
	for range 4000 {
		m := shortMat(r, chanceSide(r), chanceSide(r))
		u := changedOne(r, m.Rows, r.Intn(12), 16)
		if !impl.Unimodular(u) {
			t.Fatalf("Unimodular of %s: false", clipped(u))
		}
		other, ok := impl.MatMul(u, m)
		if !ok || !shortByWords(other) {
			continue
		}
		h, _, ok := impl.Hermite(m)
		g, _, fits := impl.Hermite(other)
		checkSteps(t, other)
		if !ok || !fits {
			continue
		}
		if !sameMat(h, g) {
			t.Errorf("Hermite of %s: %s, of the same rows made others, %s: %s", clipped(m), clipped(h), clipped(other), clipped(g))
		}
		same++
		if !sameMat(m, other) {
			changed++
		}
		// H itself is made of the rows by such a U.
		if again, _, ok := impl.Hermite(h); shortByWords(h) && (!ok || !sameMat(again, h)) {
			t.Errorf("Hermite of %s: %s", clipped(h), clipped(again))
		}
	}
	if same < 1500 || changed < 800 {
		t.Error("too few of a kind:", same, changed)
	}
}

func TestRowsInAnyOrderHaveTheSameSteps(t *testing.T) {
	for _, s := range []string{"4 1 3, 6 -2 5, -6 0 1, 10 3 3", "2, 3, -2, -3", "0 2 1, 0 -2 1, 0 4 2, 0 0 0", "5 -7 1 2 9, -5 7 -1 -2 -9, 3 3 3 3 3, 8 -4 4 5 12", "2^32-1 1, -2^32+1 2, 2^31 3, 2^32-2 -1"} {
		m := matOfText(s)
		first, _, _ := impl.Hermite(m)
		orders(m.Rows, func(order []int, even bool) {
			for signs := range 1 << m.Rows {
				other := impl.Mat{Rows: m.Rows, Cols: m.Cols}
				for _, r := range order {
					for _, x := range m.At[r*m.Cols : (r+1)*m.Cols] {
						n := oracle(x)
						if signs>>r&1 == 1 {
							n.Neg(n)
						}
						other.At = append(other.At, fromOracle(n))
					}
				}
				h, _, ok := impl.Hermite(other)
				if !checkSteps(t, other) || !ok || !sameMat(h, first) {
					t.Errorf("Hermite of %v: %v %v, wanted %v", other, h, ok, first)
				}
			}
		})
	}
}

func TestUnimodular(t *testing.T) {
	for _, c := range []struct {
		m    string
		want bool
	}{
		{"1", true}, {"-1", true}, {"0", false}, {"2", false}, {"-2", false}, {"2^32+1", false}, {"-2^256+1", false},
		{"1 0, 0 1", true}, {"0 1, 1 0", true}, {"1 0, 0 -1", true}, {"-1 0, 0 -1", true}, {"2 3, 1 2", true}, {"2 3, 1 1", true}, {"2 0, 0 1", false}, {"2 4, 1 1", false}, {"1 2, 2 4", false}, {"0 0, 0 0", false}, {"1 1, 1 1", false}, {"1 -1, 1 1", false},
		{"1 0 0, 0 1 0, 0 0 1", true}, {"0 1 0, 0 0 1, 1 0 0", true}, {"2 1 1, 1 1 0, 0 0 1", true}, {"2 1 1, 1 1 0, 0 0 -1", true}, {"2 1 1, 1 1 0, 0 0 2", false}, {"2 1 1, 1 1 0, 1 0 1", false},
		{"1 0", false}, {"1, 0", false}, {"1 0 0, 0 1 0", false}, {"1 0, 0 1, 0 0", false},
		{"1 2^256-1, 0 1", true}, {"1 0, -2^256+1 -1", true}, {"2^128 2^128-1, 2^128+1 2^128", true}, {"2^128 2^128+1, 2^128-1 2^128", true}, {"2^128 2^128, 2^128+1 2^128", false}, {"2^255 2^255-1, 2^255+1 2^255", true}, {"2^255+1 2^255-1, 2^255+1 2^255", false},
		// A determinant of which one Limb is 1, and one that isn't right itself.
		{"2^32 0, 0 1", false}, {"2^32 2^16, 2^16 1", false}, {"2^32+1 0, 0 1", false}, {"2^200 0 0 0 0 0 0, 0 2^200 0 0 0 0 0, 0 0 2^200 0 0 0 0, 0 0 0 2^200 0 0 0, 0 0 0 0 2^200 0 0, 0 0 0 0 0 2^200 0, 0 0 0 0 0 0 2^200", false},
	} {
		m := matOfText(c.m)
		checkInverse(t, m)
		if got := impl.Unimodular(m); got != c.want {
			t.Errorf("Unimodular of %s: %v", c.m, got)
		}
	}
	for n := range 9 {
		for _, m := range []impl.Mat{impl.One(n), {Rows: n}, {Cols: n}, {Rows: n, Cols: n + 1, At: make([]impl.Big, n*(n+1))}} {
			want := sameMat(m, impl.One(n))
			checkInverse(t, m)
			if impl.Unimodular(m) != want {
				t.Errorf("Unimodular of %v: %v", m, !want)
			}
		}
	}
}

func TestInverse(t *testing.T) {
	for _, c := range []struct{ m, want string }{
		{"1", "1\n"}, {"-1", "-1\n"}, {"2 3, 1 2", "2 -3\n-1 2\n"}, {"2 3, 1 1", "-1 3\n1 -2\n"}, {"0 1, 1 0", "0 1\n1 0\n"}, {"1 0, 0 -1", "1 0\n0 -1\n"}, {"0 -1, 1 0", "0 1\n-1 0\n"}, {"1 5, 0 1", "1 -5\n0 1\n"},
		{"0 1 0, 0 0 1, 1 0 0", "0 0 1\n1 0 0\n0 1 0\n"}, {"1 2 3, 0 1 4, 0 0 1", "1 -2 5\n0 1 -4\n0 0 1\n"}, {"1 2 3, 0 1 4, 0 0 -1", "1 -2 -5\n0 1 4\n0 0 -1\n"}, {"0 0 1, 0 1 0, 1 0 0", "0 0 1\n0 1 0\n1 0 0\n"}, {"1 1 1, 1 1 0, 1 0 0", "0 0 1\n0 1 -1\n1 -1 0\n"}, {"0 1 1, 1 1 0, 1 2 2", "-2 0 1\n2 1 -1\n-1 -1 1\n"},
		{"1 2^256-1, 0 1", "1 -115792089237316195423570985008687907853269984665640564039457584007913129639935\n0 1\n"}, {"1 0, -2^256+1 -1", "1 0\n-115792089237316195423570985008687907853269984665640564039457584007913129639935 -1\n"},
		// The last number is a product: of 8 Limbs just so, or of 9.
		{"1 0 0, 2^128 1 0, 0 2^127 1", "1 0 0\n-340282366920938463463374607431768211456 1 0\n57896044618658097711785492504343953926634992332820282019728792003956564819968 -170141183460469231731687303715884105728 1\n"}, {"1 0 0, 2^128 1 0, 0 2^128 1", ""}, {"1 0 0, -2^128 1 0, 0 2^128 1", ""}, {"1 0 0, 2^128 1 0, 1 2^128 1", "1 0 0\n-340282366920938463463374607431768211456 1 0\n115792089237316195423570985008687907853269984665640564039457584007913129639935 -340282366920938463463374607431768211456 1\n"}, {"1 0 0, 2^128 1 0, -1 2^128 1", ""}, {"-1 0 0, 2^128 1 0, -1 2^128 1", ""}, {"-1 0 0, 2^128 1 0, 1 2^128 1", "-1 0 0\n340282366920938463463374607431768211456 1 0\n-115792089237316195423570985008687907853269984665640564039457584007913129639935 -340282366920938463463374607431768211456 1\n"},
		// Not unimodular.
		{"0", ""}, {"2", ""}, {"-2", ""}, {"1 0", ""}, {"1, 0", ""}, {"1 2, 2 4", ""}, {"2 0, 0 1", ""}, {"1 1, -1 1", ""}, {"1 0, 0 1, 0 0", ""}, {"1 0 0, 0 1 0", ""}, {"2 1 1, 1 1 0, 1 0 1", ""},
	} {
		m := matOfText(c.m)
		told := checkInverse(t, m)
		w, ok := impl.Inverse(m)
		if ok != (c.want != "") || told != ok || impl.MatText(w) != c.want || !ok && !isZeroMat(w) {
			t.Errorf("Inverse of %s: %q %v", c.m, impl.MatText(w), ok)
		}
	}
	for n := range 9 {
		if w, ok := impl.Inverse(impl.One(n)); !ok || !sameMat(w, impl.One(n)) {
			t.Errorf("Inverse of One of %d: %v %v", n, w, ok)
		}
		for _, m := range []impl.Mat{{Rows: n + 1}, {Cols: n + 1}} {
			if w, ok := impl.Inverse(m); ok || !isZeroMat(w) {
				t.Errorf("Inverse of %v: %v %v", m, w, ok)
			}
		}
	}
}

func TestInversesOfAllLittleMatrices(t *testing.T) {
	told := 0
	count := func(m impl.Mat) {
		if checkInverse(t, m) {
			told++
		}
	}
	allMats(1, 1, -3, 3, count)
	allMats(2, 2, -3, 3, count)
	allMats(3, 3, -1, 1, count)
	allMats(2, 3, -1, 1, count)
	allMats(3, 2, -1, 1, count)
	// 2 numbers, 232 matrices of two rows and 6960 of three.
	if told != 2+232+6960 {
		t.Error("inverses:", told)
	}
}

func TestInversesOfOnesInOtherOrders(t *testing.T) {
	for n := 1; n <= 5; n++ {
		orders(n, func(order []int, even bool) {
			for signs := range 1 << n {
				m, want := filledMat(n, n, impl.Big{}), filledMat(n, n, impl.Big{})
				for r, c := range order {
					m.At[r*n+c] = impl.FromInt(1 - 2*(signs>>r&1))
					want.At[c*n+r] = m.At[r*n+c]
				}
				w, ok := impl.Inverse(m)
				if !checkInverse(t, m) || !ok || !sameMat(w, want) {
					t.Errorf("Inverse of %v: %v %v", m, w, ok)
				}
			}
		})
	}
}

// blockMat is made of two blocks of four rows: one as great as a number may be nearly, or two whose product is. Its inverse has such numbers too, while the determinants of its parts are far greater.
func blockMat(r *rand.Rand) impl.Mat {
	great := impl.Mat{Rows: 4, Cols: 4}
	for range 16 {
		great.At = append(great.At, fromOracle(new(big.Int).Sub(new(big.Int).Rand(r, twoTo(126)), twoTo(125))))
	}
	m := impl.One(8)
	for _, below := range []bool{r.Intn(2) == 0, r.Intn(2) == 0} {
		step := impl.One(8)
		for i, x := range great.At {
			at := i/4*8 + i%4
			if below {
				step.At[at+4*8] = x
			} else {
				step.At[at+4] = x
			}
		}
		m, _ = impl.MatMul(m, step)
	}
	mixed, columns := impl.Mat{Rows: 8, Cols: 8}, r.Perm(8)
	for _, row := range r.Perm(8) {
		for _, c := range columns {
			mixed.At = append(mixed.At, m.At[row*8+c])
		}
	}
	return mixed
}

func TestInversesOfChanceMatrices(t *testing.T) {
	r := rand.New(rand.NewSource(116))
	seen := map[string]int{}
	for i := range 1500 {
		n := chanceSide(r)
		m := changedOne(r, n, r.Intn(40), []int{3, 32, 256}[r.Intn(3)])
		kind := "changed"
		switch {
		case i%15 == 0:
			m, kind = blockMat(r), "blocks"
		case i%15 == 1:
			m, kind = unitMat(r), "great"
		case i%15 == 2:
			m, kind = impl.Turn(m), "turned"
		case i%15 == 3:
			m, kind = shortMat(r, n, n), "any"
		case i%15 == 4 && len(m.At) > 0:
			m.At[r.Intn(len(m.At))], kind = shortEntry(r, r.Intn(shortKinds)), "one changed"
		}
		if !checkInverse(t, m) {
			seen["refused "+kind]++
			continue
		}
		seen["told "+kind]++
		det, _ := impl.Det(m)
		seen["of determinant "+impl.IntText(det)]++
		w, _ := impl.Inverse(m)
		if back, ok := impl.Inverse(w); !ok || !sameMat(back, m) || !impl.Unimodular(w) {
			t.Errorf("Inverse of %s: %s, and back %s %v", clipped(m), clipped(w), clipped(back), ok)
		}
		// H of an unimodular one is One, so its U is the inverse.
		if h, u, ok := impl.Hermite(m); ok && (!sameMat(h, impl.One(m.Rows)) || !sameMat(u, w)) {
			t.Errorf("Hermite of %s: %s and %s, the inverse is %s", clipped(m), clipped(h), clipped(u), clipped(w))
		}
	}
	for _, kind := range []string{"told changed", "told blocks", "told turned", "told one changed", "refused great", "refused any", "refused one changed", "of determinant 1", "of determinant -1"} {
		if seen[kind] < 20 {
			t.Error("too few of a kind:", kind, seen)
		}
	}
}

func TestInversesOfUs(t *testing.T) {
	r := rand.New(rand.NewSource(117))
	told := 0
	for range 1000 {
		m := shortMat(r, chanceSide(r), chanceSide(r))
		h, u, ok := impl.Hermite(m)
		if !ok {
			continue
		}
		if !checkInverse(t, u) {
			continue
		}
		told++
		w, _ := impl.Inverse(u)
		if back, ok := impl.MatMul(w, h); !ok || !sameMat(back, m) {
			t.Errorf("Hermite of %s: %s, and back %s %v", clipped(m), clipped(h), clipped(back), ok)
		}
	}
	if told < 600 {
		t.Error("of 1000 are told:", told)
	}
}

func TestFunctionsOfStepsAnswerAnything(t *testing.T) {
	r := rand.New(rand.NewSource(118))
	steps, inverses, wrong := 0, 0, 0
	for i := range 4000 {
		m := shortMat(r, chanceSide(r), chanceSide(r))
		switch i % 4 {
		case 0:
			m = chanceMat(r, chanceSide(r), chanceSide(r))
		case 1:
			m = changedOne(r, chanceSide(r), r.Intn(20), 40)
		}
		if r.Intn(2) == 0 {
			m = spoiledMat(r, m)
		}
		if checkSteps(t, m) {
			steps++
		}
		if checkInverse(t, m) {
			inverses++
		}
		if !matByWords(m) {
			wrong++
		}
	}
	if steps < 1000 || inverses < 300 || wrong < 1000 {
		t.Error("too few of a kind:", steps, inverses, wrong)
	}
	checkSteps(t, impl.Mat{Rows: 1000, Cols: 1000, At: make([]impl.Big, 1000000)})
	checkInverse(t, impl.Mat{Rows: 1000, Cols: 1000, At: make([]impl.Big, 1000000)})
	checkSteps(t, filledMat(2, 2, bigOfLimbs(false, manyLimbs(1000000, 1)...)))
}

func stepCalls() map[string]func(c matCall) matAnswer {
	return map[string]func(c matCall) matAnswer{
		"IsHermite": func(c matCall) matAnswer { return matAnswer{ok: impl.IsHermite(c.a)} },
		"Hermite": func(c matCall) (a matAnswer) {
			a.mat, a.other, a.ok = impl.Hermite(c.a)
			return a
		},
		"Unimodular": func(c matCall) matAnswer { return matAnswer{ok: impl.Unimodular(c.a)} },
		"Inverse": func(c matCall) (a matAnswer) {
			a.mat, a.ok = impl.Inverse(c.a)
			return a
		},
	}
}

func TestStepsAreNeitherKeptNorWrittenInto(t *testing.T) {
	r := rand.New(rand.NewSource(119))
	list := someMatCalls(r)
	for _, s := range []string{"1 2, 0 3", "0 1, 1 0", "-1", "-3, 3, 6", "2 3, 1 2", "2 3, 1 1", "1 2^256-1, 0 1", "1 0 0, 2^128 1 0, 0 2^127 1", "1 0 0, 2^128 1 0, 0 2^128 1", "2^32-1 1, 2^32-1 2", "2^32 0, 0 1"} {
		list = append(list, matCall{a: matOfText(s)})
	}
	for range 200 {
		list = append(list, matCall{a: shortMat(r, chanceSide(r), chanceSide(r))}, matCall{a: changedOne(r, chanceSide(r), r.Intn(20), 100)})
	}
	list = append(list, matCall{a: impl.One(8)}, matCall{a: blockMat(r)}, matCall{a: unitMat(r)}, matCall{a: filledMat(8, 8, impl.FromInt(ones))})
	for name, call := range stepCalls() {
		for _, c := range list {
			checkMatMemory(t, name, call, c)
		}
	}
}

func TestStepsShareNoMemoryWhereArgumentsDo(t *testing.T) {
	checkMatSharing(t, []uint32{5, 6, 7, 7}, 1, stepCalls())
	checkMatSharing(t, []uint32{1, 6, 7, 7}, 1, stepCalls())
	checkMatSharing(t, []uint32{0, 1, 7, 7}, 2, stepCalls())
	// One whose numbers of one value share their Limbs.
	one := impl.FromInt(1)
	for n := 1; n <= 8; n++ {
		m := filledMat(n, n, impl.Big{})
		for i := range n {
			m.At[i*n+n-1-i] = one
		}
		for name, call := range stepCalls() {
			first := call(matCall{a: m})
			if meets(first.spans(), []span{spanOf(one.Limbs), spanOf(m.At)}) || meetsItself(first.spans()) {
				t.Errorf("%s of %v shares memory", name, m)
			}
		}
	}
}
