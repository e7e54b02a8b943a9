package tests

import (
	"fmt"
	"math"
	"math/big"
	"math/bits"
	"math/rand"
	"slices"
	"strings"
	"testing"

	"loop.example/g00676/impl"
)

// matOf is put together by hand, as MatOf is to be asked itself.
func matOf(rows ...[]int) impl.Mat {
	m := impl.Mat{Rows: len(rows)}
	for _, row := range rows {
		m.Cols = len(row)
		for _, n := range row {
			m.At = append(m.At, fromOracle(big.NewInt(int64(n))))
		}
	}
	return m
}

// matOfText has rows with commas between, and the numbers with blanks; 2^9 is a power of two.
func matOfText(s string) impl.Mat {
	m := impl.Mat{}
	for _, row := range strings.Split(s, ",") {
		words := strings.Fields(row)
		m.Rows, m.Cols = m.Rows+1, len(words)
		for _, word := range words {
			m.At = append(m.At, fromOracle(numberOfText(word)))
		}
	}
	return m
}

// numberOfText takes sums of whole numbers and powers of two: -2^256+1.
func numberOfText(s string) *big.Int {
	sum := new(big.Int)
	for _, part := range strings.Split(strings.ReplaceAll(strings.ReplaceAll(s, "+", ",+"), "-", ",-"), ",") {
		if part == "" {
			continue
		}
		digits := strings.TrimLeft(part, "+-")
		number, ok := new(big.Int).SetString(strings.TrimPrefix(digits, "2^"), 10)
		if !ok {
			panic("no number: " + s)
		}
		if strings.HasPrefix(digits, "2^") {
			number = twoTo(int(number.Int64()))
		}
		if part[0] == '-' {
			number.Neg(number)
		}
		sum.Add(sum, number)
	}
	return sum
}

func filledMat(rows int, cols int, number impl.Big) impl.Mat {
	return impl.Mat{Rows: rows, Cols: cols, At: slices.Repeat([]impl.Big{number}, max(0, rows*cols))}
}

func sameMat(a impl.Mat, b impl.Mat) bool {
	return a.Rows == b.Rows && a.Cols == b.Cols && slices.EqualFunc(a.At, b.At, sameBig)
}

func isZeroMat(m impl.Mat) bool {
	return sameMat(m, impl.Mat{})
}

// entryByWords tells whether a matrix may have that number.
func entryByWords(x impl.Big) bool {
	n := len(x.Limbs)
	return n == 0 && !x.Neg || n > 0 && n <= 8 && x.Limbs[n-1] != 0
}

func matByWords(m impl.Mat) bool {
	if m.Rows < 0 || m.Rows > 8 || m.Cols < 0 || m.Cols > 8 || m.Rows*m.Cols != len(m.At) {
		return false
	}
	return !slices.ContainsFunc(m.At, func(x impl.Big) bool { return !entryByWords(x) })
}

// numbers are the rows of a matrix as the library has them.
type numbers [][]*big.Int

func numbersOf(m impl.Mat) numbers {
	list := make(numbers, m.Rows)
	for i, x := range m.At {
		list[i/m.Cols] = append(list[i/m.Cols], oracle(x))
	}
	return list
}

// matOfNumbers refuses a number of more than MaxEntry Limbs.
func matOfNumbers(rows int, cols int, list numbers) (impl.Mat, bool) {
	m := impl.Mat{Rows: rows, Cols: cols}
	for _, row := range list {
		for _, n := range row {
			if n.BitLen() > 8*32 {
				return impl.Mat{}, false
			}
			m.At = append(m.At, fromOracle(n))
		}
	}
	return m, true
}

func productByWords(a impl.Mat, b impl.Mat) (impl.Mat, bool) {
	if !matByWords(a) || !matByWords(b) || a.Cols != b.Rows {
		return impl.Mat{}, false
	}
	left, right := numbersOf(a), numbersOf(b)
	list := make(numbers, a.Rows)
	for i := range list {
		for j := range b.Cols {
			sum := new(big.Int)
			for k := range a.Cols {
				sum.Add(sum, new(big.Int).Mul(left[i][k], right[k][j]))
			}
			list[i] = append(list[i], sum)
		}
	}
	return matOfNumbers(a.Rows, b.Cols, list)
}

func turnByWords(m impl.Mat) impl.Mat {
	if !matByWords(m) {
		return impl.Mat{}
	}
	turned := impl.Mat{Rows: m.Cols, Cols: m.Rows}
	for c := range m.Cols {
		for r := range m.Rows {
			turned.At = append(turned.At, m.At[r*m.Cols+c])
		}
	}
	return turned
}

// determinant goes by the last row, over all choices of columns: a set of these is a number, a bit for a column.
func determinant(list numbers) *big.Int {
	minors := make([]*big.Int, 1<<len(list))
	minors[0] = big.NewInt(1)
	for set := 1; set < len(minors); set++ {
		minors[set] = new(big.Int)
		row := list[bits.OnesCount(uint(set))-1]
		for c := range list {
			if set>>c&1 == 0 {
				continue
			}
			term := new(big.Int).Mul(row[c], minors[set&^(1<<c)])
			if bits.OnesCount(uint(set>>(c+1)))%2 == 1 {
				term.Neg(term)
			}
			minors[set].Add(minors[set], term)
		}
	}
	return minors[len(minors)-1]
}

func detByWords(m impl.Mat) (impl.Big, bool) {
	if !matByWords(m) || m.Rows != m.Cols {
		return impl.Big{}, false
	}
	det := determinant(numbersOf(m))
	if !fitsOracle(det) {
		return impl.Big{}, false
	}
	return fromOracle(det), true
}

// rankByWords goes by fractions: a row is left over where those that are left over already do not make it.
func rankByWords(m impl.Mat) int {
	if !matByWords(m) {
		return -1
	}
	rest := map[int][]*big.Rat{}
	for _, row := range numbersOf(m) {
		var left []*big.Rat
		for _, n := range row {
			left = append(left, new(big.Rat).SetInt(n))
		}
		for c := range left {
			if left[c].Sign() == 0 {
				continue
			}
			if rest[c] == nil {
				rest[c] = left
				break
			}
			times := new(big.Rat).Quo(left[c], rest[c][c])
			for i := range left {
				left[i] = new(big.Rat).Sub(left[i], new(big.Rat).Mul(times, rest[c][i]))
			}
		}
	}
	return len(rest)
}

func matTextByWords(m impl.Mat) string {
	if !matByWords(m) {
		return ""
	}
	text := ""
	for _, row := range numbersOf(m) {
		text += strings.Trim(fmt.Sprint(row), "[]") + "\n"
	}
	return text
}

// checkMat holds all that is told of one matrix, a right one or a wrong one, against the words.
func checkMat(t *testing.T, m impl.Mat) {
	t.Helper()
	if got := impl.MatOk(m); got != matByWords(m) {
		t.Errorf("MatOk of %s: %v", clipped(m), got)
	}
	if got, want := impl.Turn(m), turnByWords(m); !sameMat(got, want) {
		t.Errorf("Turn of %s: %s, wanted %s", clipped(m), clipped(got), clipped(want))
	}
	det, ok := impl.Det(m)
	if want, wantOk := detByWords(m); ok != wantOk || !sameBig(det, want) {
		t.Errorf("Det of %s: %s %v, wanted %s %v", clipped(m), clipped(det), ok, clipped(want), wantOk)
	}
	if got, want := impl.RankOf(m), rankByWords(m); got != want {
		t.Errorf("RankOf of %s: %d, wanted %d", clipped(m), got, want)
	}
	if got, want := impl.MatText(m), matTextByWords(m); got != want {
		t.Errorf("MatText of %s: %q, wanted %q", clipped(m), clipped(got), clipped(want))
	}
}

// checkWrongMat is for one that surely isn't right.
func checkWrongMat(t *testing.T, m impl.Mat) {
	t.Helper()
	if matByWords(m) {
		t.Fatalf("it is right: %s", clipped(m))
	}
	checkMat(t, m)
	for _, other := range []impl.Mat{m, {}, impl.One(m.Rows), impl.One(m.Cols), matOf([]int{1}), filledMat(8, 8, impl.Big{})} {
		checkMul(t, m, other)
		checkMul(t, other, m)
	}
}

func checkMul(t *testing.T, a impl.Mat, b impl.Mat) bool {
	t.Helper()
	got, ok := impl.MatMul(a, b)
	if want, wantOk := productByWords(a, b); ok != wantOk || !sameMat(got, want) {
		t.Errorf("MatMul of %s and %s: %s %v, wanted %s %v", clipped(a), clipped(b), clipped(got), ok, clipped(want), wantOk)
	}
	return ok
}

// checkMatOf tells whether the rows are taken.
func checkMatOf(t *testing.T, rows [][]int) bool {
	t.Helper()
	got, ok := impl.MatOf(rows)
	wanted := len(rows) <= 8
	for _, row := range rows {
		wanted = wanted && len(row) <= 8 && len(row) == len(rows[0])
	}
	want := impl.Mat{}
	if wanted {
		want = matOf(rows...)
	}
	if ok != wanted || !sameMat(got, want) {
		t.Errorf("MatOf of %s: %s %v, wanted %s %v", clipped(rows), clipped(got), ok, clipped(want), wanted)
	}
	return ok
}

func TestConstantsOfMatrices(t *testing.T) {
	if impl.MaxSide != 8 || impl.MaxEntry != 8 {
		t.Error(impl.MaxSide, impl.MaxEntry)
	}
}

func TestSidesOfMatrices(t *testing.T) {
	one := impl.FromInt(1)
	for rows := -2; rows <= 10; rows++ {
		for cols := -2; cols <= 10; cols++ {
			fits := rows >= 0 && rows <= 8 && cols >= 0 && cols <= 8
			for more := -2; more <= 2; more++ {
				m := impl.Mat{Rows: rows, Cols: cols, At: slices.Repeat([]impl.Big{one}, max(0, rows*cols+more))}
				right := fits && len(m.At) == rows*cols
				if impl.MatOk(m) != right {
					t.Errorf("MatOk of %d rows, %d columns, %d numbers: %v", rows, cols, len(m.At), !right)
				}
				if !right {
					checkWrongMat(t, m)
				} else {
					checkMat(t, m)
				}
			}
		}
	}
}

func TestSidesFarBeyond(t *testing.T) {
	one := impl.FromInt(1)
	far := []int{math.MinInt, math.MinInt + 1, -1 << 33, -1 << 32, -9, -8, -1, 0, 1, 8, 9, 64, 1 << 30, 1 << 31, 1 << 32, 1<<32 + 1, 1 << 33, 1 << 60, 1 << 61, 1 << 62, math.MaxInt - 1, math.MaxInt}
	for _, rows := range far {
		for _, cols := range far {
			// The product as an int may be as many numbers as there are.
			for _, count := range []int{0, 1, 2, 8, 9, 64, 72, 81} {
				m := impl.Mat{Rows: rows, Cols: cols, At: slices.Repeat([]impl.Big{one}, count)}
				right := rows >= 0 && rows <= 8 && cols >= 0 && cols <= 8 && rows*cols == count
				if impl.MatOk(m) != right {
					t.Errorf("MatOk of %d rows, %d columns, %d numbers: %v", rows, cols, count, !right)
				}
				checkMat(t, m)
				checkMul(t, m, m)
			}
		}
	}
}

func TestNumbersOfMatrices(t *testing.T) {
	right := []impl.Big{{}, {Limbs: []uint32{}}, impl.FromInt(-1), impl.FromInt(math.MinInt), bigOfLimbs(false, manyLimbs(8, ones)...), bigOfLimbs(true, manyLimbs(8, ones)...), bigOfLimbs(false, append(manyLimbs(7, 0), 1)...)}
	wrong := append(wrongBigs(), bigOfLimbs(false, manyLimbs(9, 1)...), bigOfLimbs(true, manyLimbs(9, ones)...), bigOfLimbs(false, append(manyLimbs(8, 0), 1)...), bigOfLimbs(false, append(manyLimbs(7, 5), 0)...), bigOfLimbs(true, append(manyLimbs(8, 5), 0)...), bigOfLimbs(false, manyLimbs(40, 1)...), bigOfLimbs(false, manyLimbs(8, 0)...))
	for _, sides := range [][2]int{{1, 1}, {1, 3}, {3, 1}, {3, 3}, {8, 8}} {
		plain := filledMat(sides[0], sides[1], impl.FromInt(2))
		for at := range plain.At {
			if at > 9 && at < 60 {
				continue
			}
			for _, x := range right {
				m := impl.Mat{Rows: plain.Rows, Cols: plain.Cols, At: slices.Clone(plain.At)}
				m.At[at] = x
				if !impl.MatOk(m) {
					t.Errorf("a number of a matrix: %v", x)
				}
				checkMat(t, m)
			}
			for _, x := range wrong {
				m := impl.Mat{Rows: plain.Rows, Cols: plain.Cols, At: slices.Clone(plain.At)}
				m.At[at] = x
				if impl.MatOk(m) {
					t.Errorf("no number of a matrix: %s", clipped(x))
				}
				checkWrongMat(t, m)
			}
		}
	}
	for n := 7; n <= 9; n++ {
		for _, neg := range []bool{false, true} {
			if got := impl.MatOk(impl.Mat{Rows: 1, Cols: 1, At: []impl.Big{bigOfLimbs(neg, manyLimbs(n, 1)...)}}); got != (n <= 8) {
				t.Errorf("MatOk of a number of %d Limbs: %v", n, got)
			}
		}
	}
}

func TestMatOfAtEdges(t *testing.T) {
	row := func(n int) []int { return manyInts(n, 5) }
	rows := func(n int, cols int) [][]int { return slices.Repeat([][]int{row(cols)}, n) }
	for _, c := range []struct {
		rows [][]int
		ok   bool
	}{
		{nil, true}, {[][]int{}, true}, {[][]int{nil}, true}, {[][]int{{}, nil, {}}, true},
		{[][]int{{0}}, true}, {[][]int{{1, -2}, {0, 3}}, true},
		{[][]int{{math.MinInt, math.MaxInt}, {math.MinInt + 1, -1}, {math.MaxUint32, math.MaxUint32 + 1}}, true},
		{rows(8, 0), true}, {rows(9, 0), false}, {rows(8, 1), true}, {rows(9, 1), false}, {rows(1, 8), true}, {rows(1, 9), false},
		{rows(8, 8), true}, {rows(9, 8), false}, {rows(8, 9), false}, {rows(9, 9), false},
		{[][]int{row(1), row(2)}, false}, {[][]int{row(2), row(1)}, false}, {[][]int{row(0), row(1)}, false}, {[][]int{row(1), row(0)}, false}, {[][]int{row(1), nil, row(1)}, false},
		{[][]int{row(2), row(3), row(3)}, false}, {[][]int{row(4), row(3), row(3)}, false}, {[][]int{row(3), row(3), row(2)}, false}, {[][]int{row(3), row(3), row(4)}, false}, {[][]int{row(3), row(2), row(3)}, false}, {[][]int{row(3), row(4), row(3)}, false}, {[][]int{row(2), row(4), row(3)}, false},
		{[][]int{row(8), row(9)}, false}, {[][]int{row(9), row(8)}, false}, {append(rows(7, 8), row(7)), false}, {append(rows(7, 8), row(9)), false}, {append(rows(8, 8), row(8)), false},
		{[][]int{make([]int, 1000000)}, false}, {[][]int{row(1), make([]int, 1000000)}, false}, {make([][]int, 1000000), false},
	} {
		if got := checkMatOf(t, c.rows); got != c.ok {
			t.Errorf("MatOf of %s: %v", clipped(c.rows), got)
		}
	}
	m, _ := impl.MatOf([][]int{{math.MinInt}, {math.MaxInt}})
	if text := impl.MatText(m); text != "-9223372036854775808\n9223372036854775807\n" {
		t.Error(text)
	}
}

func TestMatOfChanceRows(t *testing.T) {
	r := rand.New(rand.NewSource(101))
	taken := 0
	for range 5000 {
		n := r.Intn(10)
		var rows [][]int
		for range r.Intn(10) {
			if r.Intn(20) == 0 {
				n = r.Intn(10)
			}
			row := make([]int, n)
			for i := range row {
				row[i] = int(r.Uint64()) >> r.Intn(64)
			}
			rows = append(rows, row)
		}
		if checkMatOf(t, rows) {
			taken++
			m, _ := impl.MatOf(rows)
			checkMat(t, m)
		}
	}
	if taken < 1500 || taken > 4500 {
		t.Error("of 5000 are taken:", taken)
	}
}

func TestOnes(t *testing.T) {
	for _, n := range []int{math.MinInt, -1 << 32, -9, -8, -2, -1, 0, 1, 2, 3, 4, 5, 6, 7, 8, 9, 10, 64, 1 << 32, 1 << 62, math.MaxInt} {
		want := impl.Mat{}
		if n >= 0 && n <= 8 {
			want = filledMat(n, n, impl.Big{})
			for i := range n {
				want.At[i*n+i] = impl.FromInt(1)
			}
		}
		got := impl.One(n)
		if !sameMat(got, want) {
			t.Errorf("One of %d: %v", n, got)
		}
		checkMat(t, got)
	}
	if text := impl.MatText(impl.One(3)); text != "1 0 0\n0 1 0\n0 0 1\n" {
		t.Error(text)
	}
}

func TestSidesOfProducts(t *testing.T) {
	for rows := range 10 {
		for between := range 10 {
			for other := range 10 {
				for cols := range 10 {
					a, b := filledMat(rows, between, impl.FromInt(2)), filledMat(other, cols, impl.FromInt(-3))
					got, ok := impl.MatMul(a, b)
					want := impl.Mat{}
					fits := max(rows, between, other, cols) <= 8 && between == other
					if fits {
						want = filledMat(rows, cols, impl.FromInt(-6*between))
					}
					if ok != fits || !sameMat(got, want) {
						t.Errorf("MatMul of %d, %d and %d, %d: %v %v", rows, between, other, cols, got, ok)
					}
				}
			}
		}
	}
	noughts, ok := impl.MatMul(impl.Mat{Rows: 2}, impl.Mat{Cols: 3})
	if text := impl.MatText(noughts); !ok || text != "0 0 0\n0 0 0\n" {
		t.Errorf("without anything between: %q %v", text, ok)
	}
}

func TestProductsOfMatrices(t *testing.T) {
	for _, c := range []struct{ a, b, want string }{
		{"3", "-4", "-12"},
		{"1 2", "3, 4", "11"},
		{"3, 4", "1 2", "3 6, 4 8"},
		{"1 2, 3 4", "0 1, 1 0", "2 1, 4 3"},
		{"0 1, 1 0", "1 2, 3 4", "3 4, 1 2"},
		{"1 2, 3 4", "5 6, 7 8", "19 22, 43 50"},
		{"1 2 3, 0 -1 4", "1 0, 2 -1, 3 4", "14 10, 10 17"},
		{"1 0, 2 -1, 3 4", "1 2 3, 0 -1 4", "1 2 3, 2 5 2, 3 2 25"},
		{"2^255", "1", "2^255"},
		{"2^128", "2^127", "2^255"}, {"2^128", "2^128", ""}, {"-2^128", "2^128", ""}, {"2^128-1", "2^128+1", "2^256-1"}, {"-2^128+1", "2^128+1", "-2^256+1"},
		{"2^255 2^255", "1, 1", ""}, {"2^255 2^255-1", "1, 1", "2^256-1"}, {"-2^255 -2^255+1", "1, 1", "-2^256+1"}, {"-2^255 -2^255", "1, 1", ""}, {"2^256-1 1", "1, 1", ""},
		{"2^255 2^255 1", "2, -2, 7", "7"}, {"2^255 1 2^255", "2, 7, -2", "7"}, {"2^256-1 2^256-1 2^256-1", "2^256-1, -2^256+1, 1", "2^256-1"}, {"2^255 2^255 2^255 2^255", "2^255, 2^255, -2^255, -2^255", "0"},
		{"2^255 2^255 1", "2, -2, 7, 0", ""},
		{"1 1, 1 1", "2^255 1, 2^255 1", ""}, {"1 1, 1 1", "1 2^255, 1 2^255", ""}, {"1 0, 1 1", "2^255 1, 2^255 1", ""}, {"1 0, 1 -1", "2^255 1, 2^255 1", "2^255 1, 0 0"}, {"0 1, 1 1", "1 2^255, 1 2^255", ""},
	} {
		a, b := matOfText(c.a), matOfText(c.b)
		ok := checkMul(t, a, b)
		got, _ := impl.MatMul(a, b)
		if ok != (c.want != "") || ok && !sameMat(got, matOfText(c.want)) {
			t.Errorf("%s times %s: %v %v", c.a, c.b, got, ok)
		}
	}
}

// A sum goes through numbers of any size: what is too great is taken away again by others, in any order.
func TestSumsOfProductsThatAreTooGreatInBetween(t *testing.T) {
	r := rand.New(rand.NewSource(106))
	most := numberOfText("2^256-1")
	least := new(big.Int).Neg(most)
	for range 300 {
		last := chanceBig(r, 8)
		row, column := []impl.Big{last}, []impl.Big{impl.FromInt(1)}
		for range 1 + r.Intn(3) {
			row = append(row, fromOracle(most), fromOracle(least))
			column = append(column, fromOracle(most), fromOracle(most))
		}
		r.Shuffle(len(row), func(i int, j int) {
			row[i], row[j] = row[j], row[i]
			column[i], column[j] = column[j], column[i]
		})
		a, b := impl.Mat{Rows: 1, Cols: len(row), At: row}, impl.Mat{Rows: len(row), Cols: 1, At: column}
		checkMul(t, b, a)
		checkMul(t, a, b)
		if got, ok := impl.MatMul(a, b); !ok || !sameBig(got.At[0], last) {
			t.Errorf("%s times %s: %v %v", clipped(a), clipped(b), got, ok)
		}
		b.At[slices.IndexFunc(row, func(x impl.Big) bool { return sameBig(x, fromOracle(most)) })] = impl.Big{}
		if checkMul(t, a, b) {
			t.Errorf("%s times %s is told", clipped(a), clipped(b))
		}
	}
}

// chanceEntry is right in a matrix; of many kinds, by how great they are.
func chanceEntry(r *rand.Rand, kind int) impl.Big {
	switch kind {
	case 0:
		return fromOracle(big.NewInt(int64(r.Intn(7) - 3)))
	case 1:
		return fromOracle(big.NewInt(int64(r.Uint64()) >> r.Intn(64)))
	case 2:
		return chanceBig(r, 4)
	case 3:
		return chanceBig(r, 8)
	case 4:
		return bigOfLimbs(r.Intn(2) == 0, append(manyLimbs(7, []uint32{0, ones}[r.Intn(2)]), []uint32{1, ones}[r.Intn(2)])...)
	}
	return fromOracle(big.NewInt(int64(max(0, r.Intn(12)-9))))
}

const entryKinds = 6

// chanceMat is right; in some rows hang on each other, or columns are noughts.
func chanceMat(r *rand.Rand, rows int, cols int) impl.Mat {
	m, kind := impl.Mat{Rows: rows, Cols: cols}, r.Intn(entryKinds)
	for range rows * cols {
		m.At = append(m.At, chanceEntry(r, kind))
	}
	if len(m.At) == 0 {
		return m
	}
	for range r.Intn(4) {
		row, other, third := r.Intn(rows), r.Intn(rows), r.Intn(rows)
		switch c := r.Intn(cols); r.Intn(6) {
		case 0:
			copy(m.At[row*cols:(row+1)*cols], m.At[other*cols:(other+1)*cols])
		case 1:
			for i := range cols {
				sum := new(big.Int).Add(oracle(m.At[other*cols+i]), oracle(m.At[third*cols+i]))
				if sum.BitLen() <= 256 {
					m.At[row*cols+i] = fromOracle(sum)
				}
			}
		case 2:
			for i := range rows {
				m.At[i*cols+c] = impl.Big{}
			}
		case 3:
			m.At[row*cols+c] = chanceEntry(r, r.Intn(entryKinds))
		case 4:
			for i := range min(rows, cols) {
				m.At[i*cols+i] = impl.Big{}
			}
		}
	}
	return m
}

func chanceSide(r *rand.Rand) int {
	return []int{0, 1, 1, 2, 2, 2, 3, 3, 3, 4, 5, 6, 7, 8}[r.Intn(14)]
}

// Products go together in any order of brackets, where none is refused; and a refusal of one order is no refusal of the other.
func TestProductsInAnyOrderOfBrackets(t *testing.T) {
	r := rand.New(rand.NewSource(102))
	told, refused := 0, 0
	for range 4000 {
		a := chanceMat(r, chanceSide(r), chanceSide(r))
		b := chanceMat(r, a.Cols, chanceSide(r))
		c := chanceMat(r, b.Cols, chanceSide(r))
		first, firstOk := impl.MatMul(a, b)
		left, leftOk := impl.MatMul(first, c)
		last, lastOk := impl.MatMul(b, c)
		right, rightOk := impl.MatMul(a, last)
		checkMul(t, a, b)
		checkMul(t, first, c)
		checkMul(t, a, last)
		if !firstOk || !lastOk || !leftOk || !rightOk {
			refused++
			continue
		}
		told++
		if !sameMat(left, right) {
			t.Errorf("brackets count: %s, %s, %s: %s and %s", clipped(a), clipped(b), clipped(c), clipped(left), clipped(right))
		}
	}
	if told < 1500 || refused < 500 {
		t.Error("too few of a kind:", told, refused)
	}
	for _, c := range []struct {
		a, b, c   string
		ab, bc    bool
		together  bool
		apartLeft bool
	}{
		{"2^255", "2", "0", false, true, true, false},
		{"0", "2", "2^255", true, false, false, true},
		{"2^255 2^255", "1, 1", "0", false, true, true, false},
		{"2^200", "2^40", "2^10", true, true, true, true},
		{"2^200", "2^40", "2^16", true, true, false, false},
		{"1 -1", "2^255, 2^255", "2", true, false, false, true},
		{"2^128", "2^128", "2^128", false, false, false, false},
	} {
		ab, abOk := impl.MatMul(matOfText(c.a), matOfText(c.b))
		bc, bcOk := impl.MatMul(matOfText(c.b), matOfText(c.c))
		_, left := impl.MatMul(ab, matOfText(c.c))
		_, right := impl.MatMul(matOfText(c.a), bc)
		if abOk != c.ab || bcOk != c.bc || left != c.apartLeft || right != c.together {
			t.Errorf("%s, %s, %s: %v %v %v %v", c.a, c.b, c.c, abOk, bcOk, left, right)
		}
	}
}

// One changes nothing, a matrix of noughts makes noughts, and a product turned is the product of both turned, the other way.
func TestProductsWithOneAndTurned(t *testing.T) {
	r := rand.New(rand.NewSource(103))
	for range 2000 {
		a := chanceMat(r, chanceSide(r), chanceSide(r))
		left, leftOk := impl.MatMul(impl.One(a.Rows), a)
		right, rightOk := impl.MatMul(a, impl.One(a.Cols))
		if !leftOk || !rightOk || !sameMat(left, a) || !sameMat(right, a) {
			t.Errorf("One and %s: %s %s", clipped(a), clipped(left), clipped(right))
		}
		noughts, ok := impl.MatMul(a, filledMat(a.Cols, 3, impl.Big{}))
		if !ok || !sameMat(noughts, filledMat(a.Rows, 3, impl.Big{})) {
			t.Errorf("noughts and %s: %s", clipped(a), clipped(noughts))
		}
		b := chanceMat(r, a.Cols, chanceSide(r))
		product, ok := impl.MatMul(a, b)
		turned, turnedOk := impl.MatMul(impl.Turn(b), impl.Turn(a))
		if ok != turnedOk || ok && !sameMat(impl.Turn(product), turned) || ok && !sameMat(impl.Turn(turned), product) {
			t.Errorf("%s and %s, turned: %s %v", clipped(a), clipped(b), clipped(turned), turnedOk)
		}
		if back := impl.Turn(impl.Turn(a)); !sameMat(back, a) {
			t.Errorf("turned twice: %s of %s", clipped(back), clipped(a))
		}
	}
}

func TestMatricesTurned(t *testing.T) {
	for _, c := range []struct{ m, want string }{
		{"7", "7"}, {"1 2 3", "1, 2, 3"}, {"1, 2, 3", "1 2 3"}, {"1 2, 3 4", "1 3, 2 4"}, {"1 2 3, 0 -1 4", "1 0, 2 -1, 3 4"}, {"1 2 3 4, 5 6 7 8, 9 10 11 12", "1 5 9, 2 6 10, 3 7 11, 4 8 12"}, {"2^256-1 -2^256+1", "2^256-1, -2^256+1"},
	} {
		if got := impl.Turn(matOfText(c.m)); !sameMat(got, matOfText(c.want)) {
			t.Errorf("Turn of %s: %v", c.m, got)
		}
	}
	for n := range 9 {
		if got := impl.Turn(impl.Mat{Rows: n}); !sameMat(got, impl.Mat{Cols: n}) {
			t.Errorf("Turn of %d rows without numbers: %v", n, got)
		}
		if got := impl.Turn(impl.Mat{Cols: n}); !sameMat(got, impl.Mat{Rows: n}) {
			t.Errorf("Turn of no rows, %d columns: %v", n, got)
		}
	}
}

func TestDeterminants(t *testing.T) {
	for _, c := range []struct{ m, want string }{
		{"7", "7"}, {"-7", "-7"}, {"0", "0"}, {"1 2, 3 4", "-2"}, {"0 1, 1 0", "-1"}, {"0 2, 3 0", "-6"}, {"0 2, 3 4", "-6"}, {"0 0, 1 2", "0"}, {"0 1, 0 2", "0"}, {"1 2, 2 4", "0"}, {"2 4, 1 2", "0"}, {"14 10, 10 17", "138"},
		{"0 2 1, 3 0 5, 1 1 1", "7"}, {"0 0 1, 0 1 0, 1 0 0", "-1"}, {"0 1 0, 0 0 1, 1 0 0", "1"}, {"1 2 3, 4 5 6, 7 8 9", "0"}, {"1 2 3, 4 5 6, 7 8 10", "-3"}, {"1 2 3, 2 4 7, 1 1 1", "1"}, {"0 0 0, 0 0 0, 0 0 0", "0"}, {"1 1 1, 1 1 1, 1 1 2", "0"}, {"1 1 2, 1 1 3, 2 5 1", "-3"}, {"2 0 0, 0 3 0, 0 0 -5", "-30"},
		{"1 2 3, 4 5 6, 5 7 9", "0"}, {"0 0 2, 0 3 7, 5 1 1", "-30"},
		{"1 2", ""}, {"1, 2", ""}, {"1 2 3, 4 5 6", ""}, {"1 2, 3 4, 5 6", ""}, {"0 0, 0 0, 0 0", ""},
		{"2^256-1", "2^256-1"}, {"-2^256+1", "-2^256+1"}, {"2^255+1 2^255, 2^255 2^255-1", "-1"}, {"2^255 2^255+1, 2^255-1 2^255", "1"}, {"2^256-1 0, 0 2^256-1", "2^512-2^257+1"}, {"0 2^256-1, 2^256-1 0", "-2^512+2^257-1"},
	} {
		m := matOfText(c.m)
		checkMat(t, m)
		got, ok := impl.Det(m)
		if ok != (c.want != "") || ok && !sameBig(got, fromOracle(numberOfText(c.want))) || !ok && !isZeroBig(got) {
			t.Errorf("Det of %s: %v %v", c.m, got, ok)
		}
	}
	for rows := range 10 {
		for cols := range 10 {
			got, ok := impl.Det(filledMat(rows, cols, impl.FromInt(3)))
			want := impl.Big{}
			if rows == cols && rows < 2 {
				want = impl.FromInt([]int{1, 3}[rows])
			}
			if ok != (rows == cols && rows <= 8) || !sameBig(got, want) {
				t.Errorf("Det of %d rows, %d columns of 3: %v %v", rows, cols, got, ok)
			}
		}
	}
}

// allMats are all of those sides with numbers of least to most.
func allMats(rows int, cols int, least int, most int, yield func(m impl.Mat)) {
	at := manyInts(rows*cols, least)
	for {
		m := impl.Mat{Rows: rows, Cols: cols}
		for _, n := range at {
			m.At = append(m.At, fromOracle(big.NewInt(int64(n))))
		}
		yield(m)
		i := 0
		for i < len(at) && at[i] == most {
			at[i] = least
			i++
		}
		if i == len(at) {
			return
		}
		at[i]++
	}
}

func TestAllLittleMatrices(t *testing.T) {
	check := func(m impl.Mat) { checkMat(t, m) }
	allMats(1, 1, -9, 9, check)
	allMats(2, 2, -3, 3, check)
	allMats(3, 3, -1, 1, check)
	allMats(4, 4, 0, 1, check)
	for _, sides := range [][2]int{{1, 2}, {2, 1}, {1, 3}, {3, 1}, {2, 3}, {3, 2}} {
		allMats(sides[0], sides[1], -1, 1, check)
	}
	allMats(2, 4, -1, 1, check)
	allMats(4, 2, -1, 1, check)
}

// orders are all orders of so many places, with whether an even count of exchanges makes each.
func orders(n int, yield func(order []int, even bool)) {
	order := make([]int, n)
	for i := range order {
		order[i] = i
	}
	var from func(i int, even bool)
	from = func(i int, even bool) {
		if i == n {
			yield(order, even)
			return
		}
		for j := i; j < n; j++ {
			order[i], order[j] = order[j], order[i]
			from(i+1, even == (i == j))
			order[i], order[j] = order[j], order[i]
		}
	}
	from(0, true)
}

func TestDeterminantsOfRowsInOtherOrders(t *testing.T) {
	for n := range 7 {
		orders(n, func(order []int, even bool) {
			m, want := filledMat(n, n, impl.Big{}), 1
			for row, c := range order {
				m.At[row*n+c] = impl.FromInt(row + 2)
				want *= row + 2
			}
			if !even {
				want = -want
			}
			if got, ok := impl.Det(m); !ok || !sameBig(got, impl.FromInt(want)) || impl.RankOf(m) != n {
				t.Errorf("Det of %s: %v %v, wanted %d", clipped(m), got, ok, want)
			}
		})
	}
	r := rand.New(rand.NewSource(104))
	for range 400 {
		n := 2 + r.Intn(7)
		m := chanceMat(r, n, n)
		det, ok := impl.Det(m)
		i, j := r.Intn(n), r.Intn(n)
		other := impl.Mat{Rows: n, Cols: n, At: slices.Clone(m.At)}
		for c := range n {
			other.At[i*n+c], other.At[j*n+c] = other.At[j*n+c], other.At[i*n+c]
		}
		got, gotOk := impl.Det(other)
		if i != j {
			det, _ = impl.Sub(impl.Big{}, det)
		}
		if gotOk != ok || !sameBig(got, det) || impl.RankOf(other) != impl.RankOf(m) {
			t.Errorf("rows %d and %d exchanged in %s: %v %v", i, j, clipped(m), got, gotOk)
		}
		turned, turnedOk := impl.Det(impl.Turn(other))
		if turnedOk != gotOk || !sameBig(turned, got) {
			t.Errorf("turned: %v %v, of %s", turned, turnedOk, clipped(other))
		}
	}
}

// roundMat has x on the diagonal, 1 beside it, and a number at the last row's first place: its determinant is x to the 8, less that number.
func roundMat(x *big.Int, last int) impl.Mat {
	m := filledMat(8, 8, impl.Big{})
	for i := range 8 {
		m.At[i*8+i] = fromOracle(x)
		if i < 7 {
			m.At[i*8+i+1] = impl.FromInt(1)
		}
	}
	m.At[7*8] = impl.FromInt(last)
	return m
}

func TestDeterminantsAtMaxLimbs(t *testing.T) {
	x := twoTo(160)
	for _, m := range []impl.Mat{roundMat(x, 1), roundMat(x, 2), roundMat(x, math.MaxInt), roundMat(x, 0), roundMat(x, -1), roundMat(x, -7)} {
		right := impl.Cmp(m.At[7*8], impl.Big{}) > 0
		turned := impl.Mat{Rows: 8, Cols: 8, At: slices.Concat(m.At[8:16], m.At[:8], m.At[16:])}
		for _, given := range []impl.Mat{m, turned} {
			checkMat(t, given)
			det, ok := impl.Det(given)
			if ok != right || ok && len(det.Limbs) != 40 || !ok && !isZeroBig(det) {
				t.Errorf("Det of %s: %v %v", clipped(given), det, ok)
			}
		}
	}
	diagonal := func(words string) impl.Mat {
		list := strings.Fields(words)
		m := filledMat(len(list), len(list), impl.Big{})
		for i, word := range list {
			m.At[i*len(list)+i] = fromOracle(numberOfText(word))
		}
		return m
	}
	for _, c := range []struct {
		words string
		ok    bool
	}{
		{"2^256-1 2^256-1 2^256-1 2^256-1 2^256-1", true}, {"2^256-1 2^256-1 2^256-1 2^256-1 2^256-1 1 1 -1", true}, {"2^256-1 2^256-1 2^256-1 2^256-1 2^256-1 2", false}, {"2^256-1 -2^256+1 2^256-1 2^256-1 2^256-1 2^256-1 2^256-1 2^256-1", false},
		{"2^255 2^255 2^255 2^255 2^255 2^4", true}, {"2^255 2^255 2^255 2^255 2^255 2^5", false}, {"2^255 2^255 2^255 2^255 -2^255 2^4", true}, {"2^255 2^255 2^255 2^255 -2^255 2^5", false},
		{"2^255 2^255 2^255 2^255 2^255 2^255 2^255 0", true}, {"0 2^255 2^255 2^255 2^255 2^255 2^255 2^255", true},
	} {
		m := diagonal(c.words)
		checkMat(t, m)
		if _, ok := impl.Det(m); ok != c.ok {
			t.Errorf("Det of the diagonal %s: %v", c.words, ok)
		}
	}
}

// unitMat has numbers of up to MaxEntry Limbs, and 1 or -1 as its determinant: the product of one that has noughts above its diagonal and one that has them below, their rows and columns in another order. The determinants of some of its rows and columns are of more than MaxLimbs Limbs.
func unitMat(r *rand.Rand) impl.Mat {
	below, above := make(numbers, 8), make(numbers, 8)
	for i := range 8 {
		for j := range 8 {
			number := new(big.Int).Sub(new(big.Int).Rand(r, twoTo(125)), twoTo(124))
			low, high := number, new(big.Int)
			switch {
			case i == j:
				low, high = big.NewInt(1), big.NewInt(1)
			case i < j:
				low, high = high, low
			}
			below[i], above[i] = append(below[i], low), append(above[i], high)
		}
	}
	m, columns := impl.Mat{Rows: 8, Cols: 8}, r.Perm(8)
	for _, i := range r.Perm(8) {
		for _, j := range columns {
			sum := new(big.Int)
			for k := range 8 {
				sum.Add(sum, new(big.Int).Mul(below[i][k], above[k][j]))
			}
			m.At = append(m.At, fromOracle(sum))
		}
	}
	return m
}

// greatestMinor tells the most bits of a determinant of some first rows with as many first columns.
func greatestMinor(m impl.Mat) int {
	most, list := 0, numbersOf(m)
	for n := range list {
		var part numbers
		for _, row := range list[:n] {
			part = append(part, row[:n])
		}
		most = max(most, determinant(part).BitLen())
	}
	return most
}

func TestDeterminantsThatAreRightAtLast(t *testing.T) {
	r := rand.New(rand.NewSource(105))
	great, tooGreat := 0, 0
	for range 60 {
		m := unitMat(r)
		if greatestMinor(m) > 32*impl.MaxLimbs {
			great++
		}
		checkMat(t, m)
		det, ok := impl.Det(m)
		if _, small := impl.ToInt(det); !ok || !small || len(det.Limbs) != 1 || det.Limbs[0] != 1 || impl.RankOf(m) != 8 {
			t.Errorf("Det of %s: %v %v", clipped(m), det, ok)
		}
		// Another number at one place makes it too great mostly.
		other := impl.Mat{Rows: 8, Cols: 8, At: slices.Clone(m.At)}
		other.At[r.Intn(64)] = chanceEntry(r, 4)
		checkMat(t, other)
		if _, ok := impl.Det(other); !ok {
			tooGreat++
		}
		// A row of another one's numbers makes it 0, beside rows whose own determinants are too great.
		copy(m.At[56:], m.At[:8])
		checkMat(t, m)
		if det, ok := impl.Det(m); !ok || !isZeroBig(det) || impl.RankOf(m) != 7 {
			t.Errorf("Det of %s: %v %v", clipped(m), det, ok)
		}
	}
	if great < 10 || tooGreat < 10 {
		t.Error("too few of a kind:", great, tooGreat)
	}
	refused := 0
	for range 100 {
		m := impl.Mat{Rows: 8, Cols: 8}
		for range 64 {
			m.At = append(m.At, chanceEntry(r, 4))
		}
		checkMat(t, m)
		if det, ok := impl.Det(m); !ok && isZeroBig(det) {
			refused++
		}
	}
	if refused < 50 {
		t.Error("of 100 are refused:", refused)
	}
}

func TestDeterminantsOfChanceMatrices(t *testing.T) {
	r := rand.New(rand.NewSource(107))
	noughts, others, refused := 0, 0, 0
	for range 4000 {
		n := chanceSide(r)
		m := chanceMat(r, n, n)
		checkMat(t, m)
		det, ok := impl.Det(m)
		if (impl.RankOf(m) < n) != (ok && isZeroBig(det)) {
			t.Errorf("%s has the determinant %v %v and the rank %d", clipped(m), det, ok, impl.RankOf(m))
		}
		switch {
		case !ok:
			refused++
		case isZeroBig(det):
			noughts++
		default:
			others++
		}
	}
	if noughts < 500 || others < 500 || refused < 50 {
		t.Error("too few of a kind:", noughts, others, refused)
	}
}

// The determinant of a product is the product of the determinants: where these are right, so is theirs told just where it is.
func TestDeterminantsOfProducts(t *testing.T) {
	r := rand.New(rand.NewSource(108))
	told, tooGreat, noughts := 0, 0, 0
	for i := range 4000 {
		n := chanceSide(r)
		a, b := chanceMat(r, n, n), chanceMat(r, n, n)
		if i%20 == 0 {
			a, b = filledMat(8, 8, impl.Big{}), filledMat(8, 8, impl.Big{})
			for at := range a.At {
				a.At[at], b.At[at] = chanceBig(r, 3), chanceBig(r, 3)
			}
		}
		product, ok := impl.MatMul(a, b)
		first, firstOk := impl.Det(a)
		second, secondOk := impl.Det(b)
		if !ok || !firstOk || !secondOk {
			continue
		}
		got, gotOk := impl.Det(product)
		want, wantOk := impl.Mul(first, second)
		if gotOk != wantOk || !sameBig(got, want) {
			t.Errorf("Det of %s times %s: %v %v, wanted %v %v", clipped(a), clipped(b), got, gotOk, want, wantOk)
		}
		switch {
		case !wantOk:
			tooGreat++
		case isZeroBig(want):
			noughts++
		default:
			told++
		}
	}
	// Two diagonals whose determinants are right, and their product's only just, or no more.
	for _, power := range []int{86, 87} {
		a, b := filledMat(8, 8, impl.Big{}), filledMat(8, 8, impl.Big{})
		for i := range 8 {
			a.At[i*9], b.At[i*9] = fromOracle(twoTo(80)), fromOracle(twoTo(79))
		}
		b.At[0] = fromOracle(twoTo(power))
		product, ok := impl.MatMul(a, b)
		det, detOk := impl.Det(product)
		first, firstOk := impl.Det(a)
		second, secondOk := impl.Det(b)
		want, wantOk := impl.Mul(first, second)
		if !ok || !firstOk || !secondOk || detOk != (power == 86) || wantOk != detOk || !sameBig(det, want) {
			t.Errorf("diagonals by %d: %v %v, wanted %v %v", power, det, detOk, want, wantOk)
		}
	}
	if told < 500 || tooGreat < 30 || noughts < 200 {
		t.Error("too few of a kind:", told, tooGreat, noughts)
	}
}

func TestRanks(t *testing.T) {
	for _, c := range []struct {
		m    string
		want int
	}{
		{"0", 0}, {"5", 1}, {"-5", 1}, {"0 0 0, 0 0 0", 0}, {"1 2 3", 1}, {"0 0 3", 1}, {"1, 2, 3", 1}, {"0, 0, 3", 1},
		{"1 2, 1 2", 1}, {"1 2, 1 2, 1 2", 1}, {"1 2, -1 -2", 1}, {"1 2, 2 4, 0 0", 1}, {"1 2, 2 5", 2}, {"1 2 3, 4 5 6, 5 7 9", 2}, {"5 7 9, 1 2 3, 4 5 6", 2}, {"1 2 3, 5 7 9, 4 5 6", 2},
		{"0 1, 1 0", 2}, {"0 1, 0 2", 1}, {"0 1, 2 3, 4 5", 2}, {"0 0 1, 0 1 0, 1 0 0", 3}, {"0 0 1, 0 0 2, 0 3 0", 2},
		{"1 2 3 4 5, 2 4 6 8 10", 1}, {"1 2 3 4 5, 2 4 6 8 11", 2}, {"1 2, 3 4, 5 6, 7 8, 9 10", 2}, {"2 4, 3 6, 5 10, 7 14, 9 18", 1}, {"2 4, 3 6, 5 10, 7 14, 9 19", 2},
		{"2 3, 3 2", 2}, {"2 3, 4 6", 1}, {"2^256-1 2^255, 2^256-1 2^255", 1}, {"2^255+1 2^255, 2^255 2^255-1", 2}, {"2^255 2^254, 2^254 2^253", 1},
		{"1 0 0 0, 0 0 0 0, 0 0 0 1, 1 0 0 1", 2}, {"0 0 0 0, 0 0 2 0, 0 0 0 0, 0 3 0 0", 2},
	} {
		m := matOfText(c.m)
		checkMat(t, m)
		checkMat(t, impl.Turn(m))
		if impl.RankOf(m) != c.want || impl.RankOf(impl.Turn(m)) != c.want {
			t.Errorf("RankOf of %s: %d, turned %d", c.m, impl.RankOf(m), impl.RankOf(impl.Turn(m)))
		}
	}
	for n := range 9 {
		if impl.RankOf(impl.Mat{Rows: n}) != 0 || impl.RankOf(impl.Mat{Cols: n}) != 0 || impl.RankOf(impl.One(n)) != n {
			t.Errorf("ranks of sides of %d and 0", n)
		}
	}
}

func TestRanksOfProducts(t *testing.T) {
	r := rand.New(rand.NewSource(109))
	seen := map[int]int{}
	for range 3000 {
		rows, cols, between := chanceSide(r), chanceSide(r), chanceSide(r)
		a, b := chanceMat(r, rows, between), chanceMat(r, between, cols)
		checkMat(t, a)
		product, ok := impl.MatMul(a, b)
		if !ok {
			continue
		}
		checkMat(t, product)
		rank := impl.RankOf(product)
		seen[rank]++
		if rank > min(impl.RankOf(a), impl.RankOf(b)) || rank != impl.RankOf(impl.Turn(product)) {
			t.Errorf("RankOf of %s times %s: %d", clipped(a), clipped(b), rank)
		}
	}
	for rank := range 6 {
		if seen[rank] < 10 {
			t.Error("too few of a rank:", seen)
		}
	}
}

func TestTextsOfMatrices(t *testing.T) {
	for _, c := range []struct {
		m    impl.Mat
		want string
	}{
		{impl.Mat{}, ""}, {impl.Mat{Cols: 8}, ""}, {impl.Mat{Rows: 1}, "\n"}, {impl.Mat{Rows: 3}, "\n\n\n"}, {impl.Mat{Rows: 8}, strings.Repeat("\n", 8)},
		{matOfText("0"), "0\n"}, {matOfText("1, -2, 30"), "1\n-2\n30\n"}, {matOfText("1 -2 30"), "1 -2 30\n"}, {matOfText("-1 0, 0 -10"), "-1 0\n0 -10\n"},
		{matOfText("2^64 -2^64, 1 2"), "18446744073709551616 -18446744073709551616\n1 2\n"},
		{filledMat(8, 8, bigOfLimbs(true, manyLimbs(8, ones)...)), strings.Repeat(strings.Repeat("-115792089237316195423570985008687907853269984665640564039457584007913129639935 ", 7)+"-115792089237316195423570985008687907853269984665640564039457584007913129639935\n", 8)},
		{impl.Mat{Rows: 1}, "\n"}, {impl.Mat{Rows: 9}, ""}, {impl.Mat{Rows: 1, Cols: 1}, ""}, {impl.Mat{Rows: -1}, ""}, {filledMat(1, 1, impl.Big{Neg: true}), ""}, {filledMat(2, 2, bigOfLimbs(false, manyLimbs(9, 1)...)), ""},
	} {
		checkMat(t, c.m)
		if got := impl.MatText(c.m); got != c.want {
			t.Errorf("MatText of %s: %q", clipped(c.m), clipped(got))
		}
	}
}

// spoiledMat has one thing changed; mostly it isn't right any more.
func spoiledMat(r *rand.Rand, m impl.Mat) impl.Mat {
	m.At = slices.Clone(m.At)
	switch r.Intn(5) {
	case 0:
		m.Rows = []int{-1, 0, 9, m.Rows + 1, m.Rows - 1, math.MinInt, math.MaxInt}[r.Intn(7)]
	case 1:
		m.Cols = []int{-1, 0, 9, m.Cols + 1, m.Cols - 1, math.MinInt, math.MaxInt}[r.Intn(7)]
	case 2:
		m.At = append(m.At, chanceBig(r, 9))
	case 3:
		m.At = m.At[:r.Intn(len(m.At)+1)]
	case 4:
		if len(m.At) > 0 {
			m.At[r.Intn(len(m.At))] = append(wrongBigs(), chanceBig(r, 12), chanceBig(r, 40))[r.Intn(len(wrongBigs())+2)]
		}
	}
	return m
}

func TestFunctionsOfMatricesAnswerAnything(t *testing.T) {
	r := rand.New(rand.NewSource(110))
	right := 0
	for range 6000 {
		a := chanceMat(r, chanceSide(r), chanceSide(r))
		b := chanceMat(r, a.Cols, chanceSide(r))
		if r.Intn(2) == 0 {
			a = spoiledMat(r, a)
		}
		if r.Intn(4) == 0 {
			b = spoiledMat(r, b)
		}
		if matByWords(a) && matByWords(b) {
			right++
		}
		checkMat(t, a)
		checkMul(t, a, b)
		checkMul(t, b, a)
	}
	if right < 1500 || right > 5000 {
		t.Error("of 6000 are right:", right)
	}
	checkWrongMat(t, impl.Mat{Rows: 1000, Cols: 1000, At: make([]impl.Big, 1000000)})
	checkWrongMat(t, filledMat(2, 2, bigOfLimbs(false, manyLimbs(1000000, 1)...)))
}

// matRooms is a record of the memory of matrices and rows, with the spare room behind each list.
type matRooms struct {
	at    [][]impl.Big
	limbs [][]uint32
	rows  [][][]int
	ints  [][]int
}

func (record *matRooms) roomyMat(m impl.Mat) impl.Mat {
	at := make([]impl.Big, 0, len(m.At)+3)
	for _, x := range m.At {
		at = append(at, roomy(x, 7))
	}
	m.At = at
	whole := at[:cap(at)]
	for i := len(at); i < len(whole); i++ {
		whole[i] = roomy(impl.FromInt(-5), 7)
	}
	for _, x := range whole {
		record.limbs = append(record.limbs, wholeRoom(x))
	}
	record.at = append(record.at, whole)
	return m
}

func (record *matRooms) roomyRows(rows [][]int) [][]int {
	var told [][]int
	for _, row := range rows {
		row = withSpare(row, -5)
		record.ints = append(record.ints, row[:cap(row)])
		told = append(told, row)
	}
	told = withSpare(told, []int{6})
	record.rows = append(record.rows, told[:cap(told)])
	return told
}

func (record *matRooms) standing() string {
	text := fmt.Sprint(record.limbs, record.at, record.ints, record.rows)
	for _, at := range record.at {
		for _, x := range at {
			text += fmt.Sprint(spanOf(x.Limbs))
		}
	}
	for _, rows := range record.rows {
		for _, row := range rows {
			text += fmt.Sprint(spanOf(row))
		}
	}
	return text
}

func (record *matRooms) spans() []span {
	var list []span
	for _, at := range record.at {
		list = append(list, spanOf(at))
	}
	for _, limbs := range record.limbs {
		list = append(list, spanOf(limbs))
	}
	for _, ints := range record.ints {
		list = append(list, spanOf(ints))
	}
	for _, rows := range record.rows {
		list = append(list, spanOf(rows))
	}
	return list
}

func (record *matRooms) overwrite() {
	for _, limbs := range record.limbs {
		scribble(limbs)
	}
	for _, at := range record.at {
		clear(at)
	}
	for _, ints := range record.ints {
		clear(ints)
	}
	for _, rows := range record.rows {
		clear(rows)
	}
}

// matCall has all that a function of matrices may be given.
type matCall struct {
	a    impl.Mat
	b    impl.Mat
	rows [][]int
	n    int
}

type matAnswer struct {
	mat   impl.Mat
	other impl.Mat
	det   impl.Big
	n     int
	ok    bool
	text  string
}

func sameMatAnswer(a matAnswer, b matAnswer) bool {
	return sameMat(a.mat, b.mat) && sameMat(a.other, b.other) && sameBig(a.det, b.det) && a.n == b.n && a.ok == b.ok && a.text == b.text
}

func (a matAnswer) spans() []span {
	list := []span{spanOf(a.mat.At), spanOf(a.other.At), spanOf(a.det.Limbs), spanOfText(a.text)}
	for _, x := range slices.Concat(a.mat.At, a.other.At) {
		list = append(list, spanOf(x.Limbs))
	}
	return slices.DeleteFunc(list, func(s span) bool { return s.from == s.to })
}

func (a matAnswer) overwrite() {
	scribble(wholeRoom(a.det))
	for _, m := range []impl.Mat{a.mat, a.other} {
		at := m.At[:cap(m.At)]
		for i, x := range at {
			scribble(wholeRoom(x))
			at[i] = impl.FromInt(77)
		}
	}
}

func matCalls() map[string]func(c matCall) matAnswer {
	return map[string]func(c matCall) matAnswer{
		"MatOk": func(c matCall) matAnswer { return matAnswer{ok: impl.MatOk(c.a)} },
		"MatOf": func(c matCall) (a matAnswer) {
			a.mat, a.ok = impl.MatOf(c.rows)
			return a
		},
		"One": func(c matCall) matAnswer { return matAnswer{mat: impl.One(c.n)} },
		"MatMul": func(c matCall) (a matAnswer) {
			a.mat, a.ok = impl.MatMul(c.a, c.b)
			return a
		},
		"Turn": func(c matCall) matAnswer { return matAnswer{mat: impl.Turn(c.a)} },
		"Det": func(c matCall) (a matAnswer) {
			a.det, a.ok = impl.Det(c.a)
			return a
		},
		"RankOf":  func(c matCall) matAnswer { return matAnswer{n: impl.RankOf(c.a)} },
		"MatText": func(c matCall) matAnswer { return matAnswer{text: impl.MatText(c.a)} },
	}
}

// checkMatMemory calls a function twice with all in rooms, and writes into these and into the first answer.
func checkMatMemory(t *testing.T, name string, call func(c matCall) matAnswer, c matCall) {
	t.Helper()
	var record matRooms
	given := matCall{record.roomyMat(c.a), record.roomyMat(c.b), record.roomyRows(c.rows), c.n}
	kept := record.standing()
	first, second := call(given), call(given)
	if record.standing() != kept {
		t.Fatalf("%s writes into %s", name, clipped(c))
	}
	if meets(first.spans(), record.spans()) || meets(first.spans(), second.spans()) || meetsItself(first.spans()) {
		t.Errorf("%s of %s shares memory", name, clipped(c))
	}
	record.overwrite()
	want := call(c)
	if !sameMatAnswer(first, want) {
		t.Errorf("%s of %s is kept: %s, wanted %s", name, clipped(c), clipped(first), clipped(want))
	}
	first.overwrite()
	if !sameMatAnswer(second, want) || !sameMatAnswer(call(c), want) {
		t.Errorf("%s of %s hangs on an earlier answer", name, clipped(c))
	}
}

// someMatCalls has right arguments and wrong ones.
func someMatCalls(r *rand.Rand) []matCall {
	var list []matCall
	for _, s := range []string{"7", "0", "-7", "1 2, 3 4", "0 1, 1 0", "1 0, 0 1", "1 2, 2 4", "0 2 1, 3 0 5, 1 1 1", "0 0, 0 0", "2^256-1 1, 1 2^256-1", "2^255 2^255, 1 1", "1 2 3, 4 5 6", "1, 2, 3", "0 0 1, 0 1 0, 1 0 0"} {
		m := matOfText(s)
		list = append(list, matCall{m, m, [][]int{{1, 2}, {3, -4}}, m.Rows}, matCall{m, impl.Turn(m), [][]int{{1}, {}}, m.Cols}, matCall{impl.One(m.Rows), m, nil, 0}, matCall{m, impl.One(m.Cols), [][]int{{0}}, 9})
	}
	for _, m := range []impl.Mat{{}, {Rows: 2}, {Cols: 2}, {Rows: 9}, {Rows: 1, Cols: 1}, filledMat(1, 1, impl.Big{Neg: true}), filledMat(8, 8, impl.FromInt(5)), filledMat(9, 9, impl.FromInt(5)), filledMat(2, 2, bigOfLimbs(false, manyLimbs(9, 1)...)), filledMat(2, 2, bigOfLimbs(false, 0))} {
		list = append(list, matCall{m, m, [][]int{{}, {}}, 8}, matCall{m, impl.Mat{Rows: m.Cols, Cols: 0}, slices.Repeat([][]int{manyInts(8, 3)}, 8), 7}, matCall{m, matOf([]int{1, 2}, []int{3, 4}), slices.Repeat([][]int{manyInts(8, 3)}, 9), -1})
	}
	for range 200 {
		a := chanceMat(r, chanceSide(r), chanceSide(r))
		b := chanceMat(r, a.Cols, chanceSide(r))
		list = append(list, matCall{a, b, [][]int{manyInts(3, r.Int()), manyInts(3, -r.Int())}, r.Intn(9)}, matCall{spoiledMat(r, a), spoiledMat(r, b), [][]int{{1}, {2, 3}}, r.Intn(20) - 5})
	}
	return list
}

func TestMatricesAreNeitherKeptNorWrittenInto(t *testing.T) {
	list := someMatCalls(rand.New(rand.NewSource(111)))
	for name, call := range matCalls() {
		for _, c := range list {
			checkMatMemory(t, name, call, c)
		}
	}
}

// The numbers of a matrix may share their Limbs, two matrices their numbers, and rows be cut from one list: what is told shares none of them.
func TestMatricesShareNoMemoryWhereArgumentsDo(t *testing.T) {
	checkMatSharing(t, []uint32{5, 6, 7, 7}, 2, matCalls())
}

// checkMatSharing has all numbers be the first so many of the limbs.
func checkMatSharing(t *testing.T, limbs []uint32, n int, calls map[string]func(c matCall) matAnswer) {
	t.Helper()
	kept := slices.Clone(limbs)
	x := impl.Big{Limbs: limbs[:n]}
	at := []impl.Big{x, x, x, x, x, x}
	ints := []int{4, 5, 6, 7}
	rows := [][]int{ints[:2], ints[:2], ints[1:3]}
	for _, m := range []impl.Mat{{Rows: 1, Cols: 1, At: at[:1]}, {Rows: 2, Cols: 2, At: at[:4]}, {Rows: 2, Cols: 3, At: at}, {Rows: 6, Cols: 1, At: at}} {
		given := []span{spanOf(limbs), spanOf(at), spanOf(ints), spanOf(rows)}
		for name, call := range calls {
			for _, other := range []impl.Mat{m, {Rows: m.Cols, Cols: m.Rows, At: m.At}, impl.One(m.Cols)} {
				c := matCall{m, other, rows, 3}
				first := call(c)
				want := call(c)
				if meets(first.spans(), given) || meets(first.spans(), want.spans()) || meetsItself(first.spans()) {
					t.Errorf("%s of %s shares memory", name, clipped(c))
				}
				first.overwrite()
				if !sameMatAnswer(call(c), want) || !slices.Equal(limbs, kept) || !slices.Equal(ints, []int{4, 5, 6, 7}) {
					t.Fatalf("%s of %s: what is told is the arguments' own", name, clipped(c))
				}
			}
		}
	}
}
