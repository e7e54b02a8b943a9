package tests

import (
	"fmt"
	"math"
	"math/big"
	"math/rand"
	"slices"
	"strconv"
	"strings"
	"testing"

	"loop.example/g00676/impl"
)

func sameBook(a impl.Book, b impl.Book) bool {
	prefixes := func(x impl.Prefix, y impl.Prefix) bool { return x.Name == y.Name && sameRat(x.Num, y.Num) }
	units := func(x impl.Unit, y impl.Unit) bool {
		return x.Name == y.Name && sameRat(x.Num, y.Num) && sameVec(x.Dim, y.Dim)
	}
	return slices.Equal(a.Bases, b.Bases) && slices.EqualFunc(a.Prefixes, b.Prefixes, prefixes) && slices.EqualFunc(a.Units, b.Units, units)
}

// copyOfBook is the same book in lists of its own; numbers and powers are shared.
func copyOfBook(b impl.Book) impl.Book {
	return impl.Book{Bases: slices.Clone(b.Bases), Prefixes: slices.Clone(b.Prefixes), Units: slices.Clone(b.Units)}
}

// clipped is a text for what may be very long.
func clipped(x any) string {
	text := fmt.Sprint(x)
	return text[:min(1000, len(text))]
}

func ratOfText(s string) impl.Rat {
	value, _ := new(big.Rat).SetString(s)
	return fromRatOracle(value)
}

// bookOf is a book as written: base and a name; prefix, a name and a number; unit, a name, a number and a power of each base.
func bookOf(lines ...string) impl.Book {
	b := impl.Book{}
	for _, line := range lines {
		words := strings.Fields(line)
		switch words[0] {
		case "base":
			b.Bases = append(b.Bases, words[1])
		case "prefix":
			b.Prefixes = append(b.Prefixes, impl.Prefix{Name: words[1], Num: ratOfText(words[2])})
		case "unit":
			var powers []*big.Rat
			for _, word := range words[3:] {
				power, _ := new(big.Rat).SetString(word)
				powers = append(powers, power)
			}
			dim, _ := vecOfValues(powers)
			b.Units = append(b.Units, impl.Unit{Name: words[1], Num: ratOfText(words[2]), Dim: dim})
		}
	}
	return b
}

// plainBook has names that meet: m is a base and a prefix, km a unit and a prefix with a base behind it, dam what two prefixes make.
func plainBook() impl.Book {
	return bookOf("base m", "base s", "base kg", "prefix k 1000", "prefix m 1/1000", "prefix da 10", "prefix d 1/10", "prefix s 7",
		"unit N 1 1 -2 1", "unit ha 10000 2 0 0", "unit min 60 0 1 0", "unit km 5 1 0 0", "unit am 3 1 0 0", "unit rt 1/4 1/2 0 -1/3", "unit one 1 0 0 0")
}

// partsOf reads parts as they are written: names, with ^ and a power behind some.
func partsOf(s string) []impl.Part {
	var list []impl.Part
	for _, word := range strings.Fields(s) {
		name, power, powered := strings.Cut(word, "^")
		p, q := 1, 1
		up, down, divided := strings.Cut(power, "/")
		if powered {
			p, _ = strconv.Atoi(up)
		}
		if divided {
			q, _ = strconv.Atoi(down)
		}
		list = append(list, partOf(name, p, q))
	}
	return list
}

func aboveByWords(r impl.Rat) bool {
	return ratByWords(r) && !r.Num.Neg && len(r.Num.Limbs) > 0
}

// apartByWords tells whether all are names and no two alike.
func apartByWords(names []string) bool {
	sorted := slices.Sorted(slices.Values(names))
	return !slices.ContainsFunc(names, func(s string) bool { return !nameByWords(s) }) && len(slices.Compact(sorted)) == len(names)
}

// bookByWords is BookOk in another way: its lists are gathered ahead of being asked.
func bookByWords(b impl.Book) bool {
	if len(b.Bases) > 6 || len(b.Prefixes) > 12 || len(b.Units) > 24 {
		return false
	}
	measures, ahead, right := slices.Clone(b.Bases), []string{}, true
	for _, unit := range b.Units {
		measures = append(measures, unit.Name)
		right = right && aboveByWords(unit.Num) && rightByWords(unit.Dim) && len(unit.Dim.At) == len(b.Bases)
	}
	for _, prefix := range b.Prefixes {
		ahead = append(ahead, prefix.Name)
		right = right && aboveByWords(prefix.Num)
	}
	return right && apartByWords(measures) && apartByWords(ahead)
}

// meant is what is measured, as the library has it.
type meant struct {
	value  *big.Rat
	powers []*big.Rat
}

func (m meant) told() (impl.Rat, impl.Vec) {
	dim, _ := vecOfValues(m.powers)
	return fromRatOracle(m.value), dim
}

func noughts(n int) []*big.Rat {
	var list []*big.Rat
	for range n {
		list = append(list, new(big.Rat))
	}
	return list
}

// readings are all that a name may be read as in a right book, the one that counts first: a prefix's number, 1 of none, and what stands behind it.
func readings(b impl.Book, name string) []meant {
	var list []meant
	for at := -1; at < len(b.Prefixes); at++ {
		ahead, times := "", ratOfInts(1, 1)
		if at >= 0 {
			ahead, times = b.Prefixes[at].Name, b.Prefixes[at].Num
		}
		for i, base := range b.Bases {
			if ahead+base == name {
				powers := noughts(len(b.Bases))
				powers[i].SetInt64(1)
				list = append(list, meant{ratOracle(times), powers})
			}
		}
		for _, unit := range b.Units {
			if ahead+unit.Name == name {
				list = append(list, meant{new(big.Rat).Mul(ratOracle(times), ratOracle(unit.Num)), vecValues(unit.Dim)})
			}
		}
	}
	return list
}

// findByWords is Find in a right book in another way.
func findByWords(b impl.Book, name string) (meant, bool) {
	list := readings(b, name)
	if len(list) == 0 || !fitsRatOracle(list[0].value) {
		return meant{}, false
	}
	return list[0], true
}

// measureByWords is Measure in another way; the codes are written as the document has them.
func measureByWords(b impl.Book, parts []impl.Part) (meant, int) {
	if !bookByWords(b) || !rightParts(parts) {
		return meant{}, 7
	}
	whole := meant{big.NewRat(1, 1), noughts(len(b.Bases))}
	for _, part := range parts {
		found, ok := findByWords(b, part.Name)
		if !ok {
			return meant{}, 1
		}
		root := rootOf(found.value, part.Q)
		if root == nil {
			return meant{}, 2
		}
		up := powerOf(root, part.P)
		if up == nil || !fitsRatOracle(up) {
			return meant{}, 3
		}
		sums, scaled := noughts(len(b.Bases)), noughts(len(b.Bases))
		for i, power := range found.powers {
			scaled[i].Mul(power, big.NewRat(int64(part.P), int64(part.Q)))
			sums[i].Add(whole.powers[i], scaled[i])
		}
		_, scaledOk := vecOfValues(scaled)
		_, sumsOk := vecOfValues(sums)
		whole = meant{new(big.Rat).Mul(whole.value, up), sums}
		if !scaledOk || !sumsOk || !fitsRatOracle(whole.value) {
			return meant{}, 3
		}
	}
	return whole, 0
}

// addCodeByWords is the code that a name, the number that is full, and a number are refused with; else 0.
func addCodeByWords(right bool, name string, taken []string, full bool, num impl.Rat) int {
	switch {
	case !right:
		return 7
	case !nameByWords(name) || slices.Contains(taken, name):
		return 4
	case full:
		return 5
	case !aboveByWords(num):
		return 6
	}
	return 0
}

func measureNames(b impl.Book) []string {
	list := slices.Clone(b.Bases)
	for _, unit := range b.Units {
		list = append(list, unit.Name)
	}
	return list
}

func addBaseByWords(b impl.Book, name string) (impl.Book, int) {
	if code := addCodeByWords(bookByWords(b), name, measureNames(b), len(b.Bases) == 6, ratOfInts(1, 1)); code > 0 {
		return impl.Book{}, code
	}
	more := copyOfBook(b)
	more.Bases = append(more.Bases, name)
	for i, unit := range b.Units {
		more.Units[i].Dim = vecOf(unit.Dim.Den, append(slices.Clone(unit.Dim.At), 0)...)
	}
	return more, 0
}

func addPrefixByWords(b impl.Book, name string, num impl.Rat) (impl.Book, int) {
	var taken []string
	for _, prefix := range b.Prefixes {
		taken = append(taken, prefix.Name)
	}
	if code := addCodeByWords(bookByWords(b), name, taken, len(b.Prefixes) == 12, num); code > 0 {
		return impl.Book{}, code
	}
	more := copyOfBook(b)
	more.Prefixes = append(more.Prefixes, impl.Prefix{Name: name, Num: num})
	return more, 0
}

func addUnitByWords(b impl.Book, name string, num impl.Rat, parts []impl.Part) (impl.Book, int) {
	if code := addCodeByWords(bookByWords(b), name, measureNames(b), len(b.Units) == 24, num); code > 0 {
		return impl.Book{}, code
	}
	whole, code := measureByWords(b, parts)
	if code > 0 {
		return impl.Book{}, code
	}
	whole.value = new(big.Rat).Mul(ratOracle(num), whole.value)
	if !fitsRatOracle(whole.value) {
		return impl.Book{}, 3
	}
	more := copyOfBook(b)
	number, dim := whole.told()
	more.Units = append(more.Units, impl.Unit{Name: name, Num: number, Dim: dim})
	return more, 0
}

func checkFind(t *testing.T, b impl.Book, name string) {
	t.Helper()
	number, dim, ok := impl.Find(b, name)
	if !bookByWords(b) {
		if ok || !isZeroRat(number) || !isZeroVec(dim) {
			t.Errorf("Find of %.50q in a wrong book: %v %v %v", name, number, dim, ok)
		}
		return
	}
	var wantNumber impl.Rat
	var wantDim impl.Vec
	want, right := findByWords(b, name)
	if right {
		wantNumber, wantDim = want.told()
	}
	if ok != right || !sameRat(number, wantNumber) || !sameVec(dim, wantDim) || ok && !(impl.RatOk(number) && impl.VecOk(dim)) {
		t.Errorf("Find of %.50q in %v: %v %v %v, wanted %v %v %v", name, b, number, dim, ok, wantNumber, wantDim, right)
	}
}

func checkMeasure(t *testing.T, b impl.Book, parts []impl.Part) int {
	t.Helper()
	var wantNumber impl.Rat
	var wantDim impl.Vec
	want, wantCode := measureByWords(b, parts)
	if wantCode == 0 {
		wantNumber, wantDim = want.told()
	}
	number, dim, code := impl.Measure(b, parts)
	if code != wantCode || !sameRat(number, wantNumber) || !sameVec(dim, wantDim) || code == impl.BkOk && !(impl.RatOk(number) && impl.VecOk(dim)) {
		t.Errorf("Measure of %s in %s: %v %v %d, wanted %v %v %d", clipped(parts), clipped(b), number, dim, code, wantNumber, wantDim, wantCode)
	}
	return code
}

func tellsBook(t *testing.T, call string, b impl.Book, got impl.Book, code int, want impl.Book, wantCode int) int {
	t.Helper()
	if code != wantCode || !sameBook(got, want) || code == impl.BkOk && !impl.BookOk(got) {
		t.Errorf("%s to %s: %s and %d, wanted %s and %d", call, clipped(b), clipped(got), code, clipped(want), wantCode)
	}
	return code
}

func checkAddBase(t *testing.T, b impl.Book, name string) int {
	t.Helper()
	got, code := impl.AddBase(b, name)
	want, wantCode := addBaseByWords(b, name)
	return tellsBook(t, "AddBase of "+strconv.Quote(name[:min(50, len(name))]), b, got, code, want, wantCode)
}

func checkAddPrefix(t *testing.T, b impl.Book, name string, num impl.Rat) int {
	t.Helper()
	got, code := impl.AddPrefix(b, name, num)
	want, wantCode := addPrefixByWords(b, name, num)
	return tellsBook(t, "AddPrefix of "+strconv.Quote(name[:min(50, len(name))]), b, got, code, want, wantCode)
}

func checkAddUnit(t *testing.T, b impl.Book, name string, num impl.Rat, parts []impl.Part) int {
	t.Helper()
	got, code := impl.AddUnit(b, name, num, parts)
	want, wantCode := addUnitByWords(b, name, num, parts)
	return tellsBook(t, "AddUnit of "+strconv.Quote(name[:min(50, len(name))]), b, got, code, want, wantCode)
}

func checkConvert(t *testing.T, b impl.Book, from []impl.Part, to []impl.Part) bool {
	t.Helper()
	number, ok := impl.Convert(b, from, to)
	source, sourceCode := measureByWords(b, from)
	target, targetCode := measureByWords(b, to)
	alike := func(x *big.Rat, y *big.Rat) bool { return x.Cmp(y) == 0 }
	if sourceCode > 0 || targetCode > 0 || !slices.EqualFunc(source.powers, target.powers, alike) {
		refusesRat(t, "Convert", []any{from, to}, number, ok)
		return ok
	}
	tellsRat(t, "Convert", []any{from, to}, number, ok, new(big.Rat).Quo(source.value, target.value))
	return ok
}

// checkWrongBook wants each function's one answer to what isn't BookOk, also where the other arguments are wrong too.
func checkWrongBook(t *testing.T, b impl.Book) {
	t.Helper()
	if impl.BookOk(b) || bookByWords(b) {
		t.Errorf("%s isn't right: BookOk %v, in another way %v", clipped(b), impl.BookOk(b), bookByWords(b))
		return
	}
	for _, name := range []string{"", "m", "km", "x9", "1", "abcdefghijklm"} {
		checkFind(t, b, name)
		if checkAddBase(t, b, name) != impl.BkBook || checkAddPrefix(t, b, name, ratOfInts(1, 1)) != impl.BkBook || checkAddPrefix(t, b, name, impl.Rat{}) != impl.BkBook {
			t.Errorf("%s is added to", clipped(b))
		}
		for _, parts := range [][]impl.Part{nil, partsOf("m"), partsOf("x9"), {{}}, partsOf(strings.Repeat("m ", 9))} {
			if checkAddUnit(t, b, name, ratOfInts(1, 1), parts) != impl.BkBook || checkAddUnit(t, b, name, impl.Rat{}, parts) != impl.BkBook || checkMeasure(t, b, parts) != impl.BkBook || checkConvert(t, b, parts, parts) || checkConvert(t, b, nil, parts) {
				t.Errorf("%s is measured by", clipped(b))
			}
		}
	}
}

// checkRightBook holds all that is told of a right book against the second reckoning.
func checkRightBook(t *testing.T, b impl.Book) {
	t.Helper()
	if !impl.BookOk(b) || !bookByWords(b) {
		t.Errorf("%s is right: BookOk %v, in another way %v", clipped(b), impl.BookOk(b), bookByWords(b))
		return
	}
	for _, name := range append(measureNames(b), "", "x9", "1", "abcdefghijklm") {
		checkFind(t, b, name)
		checkMeasure(t, b, []impl.Part{partOf(name, 1, 1)})
		checkAddBase(t, b, name)
		checkAddPrefix(t, b, name, ratOfInts(3, 7))
		checkAddUnit(t, b, name, ratOfInts(3, 7), nil)
		checkConvert(t, b, []impl.Part{partOf(name, 1, 1)}, []impl.Part{partOf(name, 1, 1)})
		for _, prefix := range b.Prefixes {
			checkFind(t, b, prefix.Name+name)
		}
	}
	checkMeasure(t, b, nil)
}

func checkEitherBook(t *testing.T, b impl.Book) {
	t.Helper()
	if bookByWords(b) {
		checkRightBook(t, b)
	} else {
		checkWrongBook(t, b)
	}
}

func TestConstantsOfUnits(t *testing.T) {
	codes := []int{impl.BkOk, impl.BkNone, impl.BkRoot, impl.BkLarge, impl.BkName, impl.BkFull, impl.BkNum, impl.BkBook}
	if !slices.Equal(codes, []int{0, 1, 2, 3, 4, 5, 6, 7}) || impl.MaxBases != 6 || impl.MaxPrefixes != 12 || impl.MaxUnits != 24 {
		t.Error(codes, impl.MaxBases, impl.MaxPrefixes, impl.MaxUnits)
	}
}

// sizedBook has so many bases, prefixes and units.
func sizedBook(bases int, prefixes int, units int) impl.Book {
	b := impl.Book{}
	for i := range bases {
		b.Bases = append(b.Bases, "b"+strconv.Itoa(i))
	}
	for i := range prefixes {
		b.Prefixes = append(b.Prefixes, impl.Prefix{Name: "p" + strconv.Itoa(i), Num: ratOfInts(i+2, 1)})
	}
	for i := range units {
		b.Units = append(b.Units, impl.Unit{Name: "u" + strconv.Itoa(i), Num: ratOfInts(1, i+1), Dim: vecOf(1, manyInts(bases, i)...)})
	}
	return b
}

func TestBooksOfEachSize(t *testing.T) {
	checkRightBook(t, impl.Book{})
	checkRightBook(t, impl.Book{Bases: []string{}, Prefixes: make([]impl.Prefix, 0, 2), Units: []impl.Unit{}})
	checkRightBook(t, plainBook())
	for _, bases := range []int{0, 1, 5, 6, 7, 8, 9} {
		for _, prefixes := range []int{0, 1, 11, 12, 13, 14} {
			for _, units := range []int{0, 1, 23, 24, 25, 26} {
				b := sizedBook(bases, prefixes, units)
				if impl.BookOk(b) != (bases <= impl.MaxBases && prefixes <= impl.MaxPrefixes && units <= impl.MaxUnits) {
					t.Errorf("%d bases, %d prefixes, %d units: %v", bases, prefixes, units, impl.BookOk(b))
				}
				if bases+prefixes+units < 30 || bases > 5 && prefixes > 11 && units > 23 {
					checkEitherBook(t, b)
				}
			}
		}
	}
	checkWrongBook(t, sizedBook(7, 0, 0))
	checkWrongBook(t, sizedBook(0, 13, 0))
	checkWrongBook(t, sizedBook(0, 0, 25))
	many := 1000000
	for _, b := range []impl.Book{{Bases: make([]string, many)}, {Prefixes: make([]impl.Prefix, many)}, {Units: make([]impl.Unit, many)}, {Bases: slices.Repeat([]string{"m"}, many)}} {
		if impl.BookOk(b) {
			t.Error("a book of very many")
		}
	}
}

func TestNamesOfBooks(t *testing.T) {
	sizes := [3]int{3, 4, 5}
	for list := range sizes {
		for _, place := range []int{0, 1, sizes[list] - 1} {
			named := func(name string) impl.Book {
				b := sizedBook(sizes[0], sizes[1], sizes[2])
				switch list {
				case 0:
					b.Bases[place] = name
				case 1:
					b.Prefixes[place].Name = name
				case 2:
					b.Units[place].Name = name
				}
				return b
			}
			for _, name := range namesThatAreSome() {
				checkRightBook(t, named(name))
			}
			for _, name := range namesThatAreNone() {
				b := named(name)
				if impl.BookOk(b) || bookByWords(b) {
					t.Errorf("a book with the name %.50q in list %d", name, list)
				}
				if len(name) < 20 {
					checkWrongBook(t, b)
				}
			}
		}
	}
}

func TestBooksWithOneNameTwice(t *testing.T) {
	fresh := func() impl.Book { return sizedBook(4, 4, 5) }
	for i := range 4 {
		for j := range 5 {
			b := fresh()
			if b.Units[j].Name = b.Bases[i]; impl.BookOk(b) {
				t.Error("a base and a unit of one name:", i, j)
			}
			checkWrongBook(t, b)
			if b = fresh(); i != j {
				b.Units[i].Name = b.Units[j].Name
				checkWrongBook(t, b)
			}
			if b = fresh(); i != j && j < 4 {
				b.Bases[i] = b.Bases[j]
				checkWrongBook(t, b)
				b = fresh()
				b.Prefixes[i].Name = b.Prefixes[j].Name
				checkWrongBook(t, b)
			}
			// A prefix may have the name of a base or a unit.
			b = fresh()
			b.Prefixes[i].Name = b.Units[j].Name
			checkRightBook(t, b)
			b.Prefixes[i].Name = b.Bases[min(j, 3)]
			checkRightBook(t, b)
		}
	}
	checkWrongBook(t, impl.Book{Bases: []string{"m", "m"}})
	checkWrongBook(t, bookOf("base m", "unit m 1 1"))
	checkWrongBook(t, bookOf("unit u 1", "unit u 1"))
	checkWrongBook(t, bookOf("prefix k 1", "prefix k 1"))
	checkRightBook(t, bookOf("base m", "prefix m 2", "unit M 1 1", "prefix M 3"))
	// What prefixes make may be a name of its own too.
	checkRightBook(t, bookOf("base m", "base km", "prefix k 1000", "prefix kk 5", "unit kkm 3 1 0"))
}

// greatRats are above 0 and right, at the limits of Limbs and of texts.
func greatRats() []impl.Rat {
	var list []impl.Rat
	most := greatest()
	for _, p := range [][2]*big.Int{{most, big.NewInt(1)}, {big.NewInt(1), most}, {most, twoTo(1279)}, {twoTo(1279), most}, {twoTo(1279), big.NewInt(3)}, {big.NewInt(1), twoTo(640)}} {
		list = append(list, fromRatOracle(new(big.Rat).SetFrac(p[0], p[1])))
	}
	return list
}

func TestNumbersOfBooks(t *testing.T) {
	for _, number := range append(append(edgeRats(), wrongRats()...), greatRats()...) {
		right := impl.RatCmp(number, ratOfInts(0, 1)) == 1
		for place := range 3 {
			b := sizedBook(1, 3, 3)
			b.Prefixes[place].Num = number
			if impl.BookOk(b) != right || bookByWords(b) != right {
				t.Errorf("a book with a prefix of %v: %v", number, impl.BookOk(b))
			}
			b = sizedBook(1, 3, 3)
			b.Units[place].Num = number
			if impl.BookOk(b) != right || bookByWords(b) != right {
				t.Errorf("a book with a unit of %v: %v", number, impl.BookOk(b))
			}
		}
	}
	for _, number := range append(wrongRats(), ratOfInts(0, 1), ratOfInts(-1, 1), ratOfInts(-1, 1000), impl.Rat{Num: bigOfLimbs(true, 5), Den: impl.FromInt(1)}) {
		for _, kind := range []string{"prefix k 1", "unit u 1 0"} {
			b := bookOf("base m", kind)
			for i := range b.Prefixes {
				b.Prefixes[i].Num = number
			}
			for i := range b.Units {
				b.Units[i].Num = number
			}
			checkWrongBook(t, b)
		}
	}
	// A Num of a book has no limit of MaxDigits.
	for _, number := range greatRats() {
		b := bookOf("base m", "prefix k 1", "unit u 1 0")
		b.Prefixes[0].Num = number
		checkRightBook(t, b)
		b.Units[0].Num = number
		checkRightBook(t, b)
		if added, code := impl.AddPrefix(b, "j", number); code != impl.BkOk || len(impl.RatText(added.Prefixes[1].Num)) != len(impl.RatText(number)) {
			t.Errorf("AddPrefix of %v: %d", number, code)
		}
	}
}

func TestDimsOfBooks(t *testing.T) {
	for n := range impl.MaxBases + 1 {
		for k := range impl.MaxLen + 2 {
			b := sizedBook(n, 1, 3)
			for place := range b.Units {
				changed := copyOfBook(b)
				changed.Units[place].Dim = vecOf(1, manyInts(k, 3)...)
				if impl.BookOk(changed) != (k == n) {
					t.Errorf("%d bases and a Dim of %d values: %v", n, k, impl.BookOk(changed))
				}
				checkEitherBook(t, changed)
			}
		}
		for _, dim := range wrongVecs() {
			changed := sizedBook(n, 1, 3)
			changed.Units[1].Dim = dim
			if impl.BookOk(changed) {
				t.Errorf("%d bases and a Dim of %v", n, dim)
			}
		}
		if n == 0 {
			continue
		}
		for _, dim := range edgeVecs(n) {
			changed := sizedBook(n, 1, 3)
			changed.Units[2].Dim = dim
			checkRightBook(t, changed)
		}
	}
	for _, dim := range wrongVecs() {
		b := sizedBook(len(dim.At)%9, 1, 2)
		b.Units[0].Dim = dim
		checkWrongBook(t, b)
	}
}

// checkFound wants a name to mean a number and powers, told by a text; none where it is empty.
func checkFound(t *testing.T, b impl.Book, name string, want string) {
	t.Helper()
	number, dim, ok := impl.Find(b, name)
	got := ""
	if ok {
		got = ratOracle(number).RatString() + " " + textByWords(dim, b.Bases)
	}
	if got != want || !ok && (!isZeroRat(number) || !isZeroVec(dim)) {
		t.Errorf("Find of %q: %q, wanted %q", name, got, want)
	}
	checkFind(t, b, name)
}

func TestFindOfNames(t *testing.T) {
	for _, c := range [][2]string{
		{"m", "1 m"}, {"s", "1 s"}, {"kg", "1 kg"}, {"N", "1 m s^-2 kg"}, {"ha", "10000 m^2"}, {"min", "60 s"}, {"am", "3 m"}, {"one", "1 1"}, {"rt", "1/4 m^1/2 kg^-1/3"},
		// A unit's own name ahead of what a prefix makes.
		{"km", "5 m"}, {"kkm", "5000 m"},
		{"mm", "1/1000 m"}, {"ms", "1/1000 s"}, {"ks", "1000 s"}, {"kkg", "1000 kg"}, {"mkg", "1/1000 kg"}, {"kN", "1000 m s^-2 kg"}, {"dN", "1/10 m s^-2 kg"}, {"daN", "10 m s^-2 kg"}, {"dha", "1000 m^2"}, {"mmin", "3/50 s"}, {"krt", "250 m^1/2 kg^-1/3"}, {"done", "1/10 1"}, {"ss", "7 s"}, {"sm", "7 m"}, {"dm", "1/10 m"}, {"das", "10 s"},
		// Two prefixes make it: da and m, then d and am.
		{"dam", "10 m"}, {"daam", "30 m"},
		// A prefix alone, one behind another, one with nothing known behind it.
		{"k", ""}, {"d", ""}, {"da", ""}, {"kk", ""}, {"mk", ""}, {"kkkg", ""}, {"kms", ""}, {"mmm", ""}, {"kda", ""}, {"kx", ""}, {"kg1", ""}, {"dak", ""},
		{"", ""}, {" ", ""}, {"x", ""}, {"M", ""}, {"K", ""}, {"KG", ""}, {"n", ""}, {"m ", ""}, {" m", ""}, {"m^1", ""}, {"k m", ""}, {"k\x00m", ""}, {"\xffm", ""}, {"mN ", ""}, {"1", ""}, {"m\n", ""}, {"о", ""}, {"mi", ""}, {"minn", ""}, {"Nk", ""}, {"mk", ""},
	} {
		checkFound(t, plainBook(), c[0], c[1])
	}
	for _, name := range append(namesThatAreNone(), sampleTexts()...) {
		checkFound(t, impl.Book{}, name, "")
		checkFind(t, plainBook(), name)
	}
	for _, name := range []string{strings.Repeat("k", 1000000) + "m", strings.Repeat("m", 1000000), "k" + strings.Repeat("g", 1000000)} {
		if _, _, ok := impl.Find(plainBook(), name); ok {
			t.Error("Find of a very long name")
		}
	}
}

// The first prefix, in the order of Prefixes, counts: the longer or the shorter one.
func TestFindByTheFirstPrefix(t *testing.T) {
	ahead := []string{"prefix a 2", "prefix aa 3", "prefix aaa 5", "prefix ab 7"}
	behind := []string{"base b", "unit ab 11 1", "unit aab 13 1", "unit bb 17 1"}
	wants := map[string][]string{"aaab": {"26", "33", "5", ""}, "aab": {"13", "13", "13", "13"}, "abb": {"34", "", "", "7"}, "aabb": {"", "51", "", ""}, "ab": {"11", "11", "11", "11"}, "abab": {"", "", "", "77"}, "aaaab": {"", "39", "55", ""}}
	for name, byPrefix := range wants {
		for i := range ahead {
			for j := range ahead {
				if i == j {
					continue
				}
				want := byPrefix[i]
				if want == "" {
					want = byPrefix[j]
				}
				if want != "" {
					want += " b"
				}
				checkFound(t, bookOf(append([]string{ahead[i], ahead[j]}, behind...)...), name, want)
			}
		}
	}
}

func TestFindOfLongNames(t *testing.T) {
	long, other := "abcdefghijkl", "mnopqrstuvwx"
	b := bookOf("base m", "base "+long, "prefix "+other+" 3", "prefix k 1/2", "unit "+other+" 5 1 0")
	for _, c := range [][2]string{
		{long, "1 " + long}, {"k" + long, "1/2 " + long}, {other + long, "3 " + long}, {other + other, "15 m"}, {other + "m", "3 m"}, {other, "5 m"}, {"k" + other, "5/2 m"},
		{long + other, ""}, {other + other + other, ""}, {other + other + long, ""}, {"k" + other + long, ""}, {other + "k" + long, ""},
	} {
		checkFound(t, b, c[0], c[1])
	}
	// A part's Name is NameOk, so what is longer can't be measured.
	if checkMeasure(t, b, []impl.Part{partOf("k"+long, 1, 1)}) != impl.BkBook || checkMeasure(t, b, []impl.Part{partOf("k"+long[:11], 1, 1)}) != impl.BkNone || checkMeasure(t, b, partsOf(long)) != impl.BkOk {
		t.Error("parts of long names")
	}
}

// twoPower is 2 to the n, also below 0.
func twoPower(n int) string {
	if n < 0 {
		return "1/" + twoTo(-n).String()
	}
	return twoTo(n).String()
}

func TestFindWhereTheNumberIsNotRight(t *testing.T) {
	for _, c := range []struct {
		prefix, unit string
		want         string
	}{
		{twoPower(640), twoPower(639), twoPower(1279)}, {twoPower(640), twoPower(640), ""}, {twoPower(-640), twoPower(-639), twoPower(-1279)}, {twoPower(-640), twoPower(-640), ""},
		{twoPower(1279), twoPower(-1279), "1"}, {twoPower(1279), "2", ""}, {twoPower(1279), "1", twoPower(1279)}, {twoPower(1279), "1/2", twoPower(1278)}, {twoPower(-1279), "1/2", ""}, {twoPower(-1279), "2", twoPower(-1278)},
		{greatest().String(), "1", greatest().String()}, {greatest().String(), "2", ""}, {greatest().String(), "1/" + greatest().String(), "1"}, {"1/" + greatest().String(), "1/2", ""}, {greatest().String(), "1/2", greatest().String() + "/2"},
		{twoPower(1279) + "/3", "3/2", twoPower(1278)}, {twoPower(1279) + "/3", "9/4", new(big.Int).Mul(twoTo(1277), big.NewInt(3)).String()}, {twoPower(1279) + "/3", "3", twoPower(1279)}, {twoPower(1279) + "/3", "6", ""},
	} {
		want := ""
		if c.want != "" {
			want = c.want + " m"
		}
		b := bookOf("base m", "prefix k "+c.prefix, "unit u "+c.unit+" 1")
		checkFound(t, b, "ku", want)
		// The first prefix counts, also where its number isn't right and the next one's is.
		b = bookOf("base m", "prefix k "+c.prefix, "prefix kK 1", "unit Ku "+c.unit+" 1", "unit u 1 1")
		checkFound(t, b, "kKu", want)
		code := checkMeasure(t, b, partsOf("kKu"))
		if (code == impl.BkOk) != (want != "") || code != impl.BkOk && code != impl.BkNone {
			t.Errorf("%s times %s: %d", c.prefix, c.unit, code)
		}
		// A name of its own is found whatever the prefixes would make.
		checkFound(t, bookOf("base m", "prefix k "+c.prefix, "unit u "+c.unit+" 1", "unit ku 3 1"), "ku", "3 m")
	}
}

// checkMeant wants parts to mean a number and powers, told by a text, or to be refused by a code that begins it.
func checkMeant(t *testing.T, b impl.Book, parts []impl.Part, want string) {
	t.Helper()
	number, dim, code := impl.Measure(b, parts)
	got := [...]string{"", "none", "root", "large", "name", "full", "num", "book"}[code]
	if code == impl.BkOk {
		got = ratOracle(number).RatString() + " " + textByWords(dim, b.Bases)
	} else if !isZeroRat(number) || !isZeroVec(dim) {
		t.Errorf("Measure of %v: %v %v beside %d", parts, number, dim, code)
	}
	if got != want {
		t.Errorf("Measure of %s: %.300q, wanted %.300q", clipped(parts), got, want)
	}
	checkMeasure(t, b, parts)
}

func TestMeasureOfParts(t *testing.T) {
	b := plainBook()
	for _, c := range [][2]string{
		{"", "1 1"}, {"m", "1 m"}, {"m m", "1 m^2"}, {"m m^-1", "1 1"}, {"m^2", "1 m^2"}, {"m^-3 s^2 kg", "1 m^-3 s^2 kg"}, {"m^1/2", "1 m^1/2"}, {"m^-1/2 s^12/11", "1 m^-1/2 s^12/11"}, {"m^12 kg^-12", "1 m^12 kg^-12"}, {"m^0", "1 1"}, {"N^0 km^0", "1 1"}, {"m^1/3 m^1/6", "1 m^1/2"}, {"m^1/3 m^2/3", "1 m"}, {"m^1/12 s^-1/11 m^-1/12", "1 s^-1/11"},
		{"N", "1 m s^-2 kg"}, {"N^2", "1 m^2 s^-4 kg^2"}, {"N^-1", "1 m^-1 s^2 kg^-1"}, {"N^1/2", "1 m^1/2 s^-1 kg^1/2"}, {"kN", "1000 m s^-2 kg"}, {"kN^1/3", "10 m^1/3 s^-2/3 kg^1/3"}, {"kN^-2/3", "1/100 m^-2/3 s^4/3 kg^-2/3"}, {"km", "5 m"}, {"km^2", "25 m^2"}, {"km^-1", "1/5 m^-1"}, {"kkm", "5000 m"}, {"kkm mm", "5 m^2"}, {"km min^-1", "1/12 m s^-1"}, {"ks^2 mm", "1000 m s^2"},
		{"ha^1/2", "100 m"}, {"ha^-1/2", "1/100 m^-1"}, {"ha^1/4", "10 m^1/2"}, {"ha^3/4", "1000 m^3/2"}, {"ha^1/2 kkg^-1/3", "10 m kg^-1/3"}, {"rt", "1/4 m^1/2 kg^-1/3"}, {"rt^-1/2", "2 m^-1/4 kg^1/6"}, {"rt^6", "1/4096 m^3 kg^-2"}, {"rt^-6", "4096 m^-3 kg^2"}, {"rt^12", "1/16777216 m^6 kg^-4"}, {"rt^0", "1 1"}, {"one", "1 1"}, {"one^7/12", "1 1"}, {"ha^0", "1 1"}, {"dam^3 am^-3", "1000/27 1"},
		{"m m m m m m m m", "1 m^8"}, {"km km km km km km km km", "390625 m^8"}, {"ha^1/4 ha^1/4 ha^1/4 ha^1/4 ha^-1 kg s", "1 m^0 s kg"},
		{"x", "none"}, {"k", "none"}, {"M", "none"}, {"kms", "none"}, {"m x", "none"}, {"x m", "none"}, {"x^0", "none"}, {"m m m m m m m x", "none"}, {"km^1/2", "root"}, {"ha^1/3", "root"}, {"ha^1/8", "root"}, {"ha^-3/8", "root"}, {"kN^1/2", "root"}, {"rt^1/4", "root"}, {"min^1/2", "root"}, {"min^-1/12", "root"}, {"am^1/2", "root"}, {"m km^1/2", "root"}, {"km^1/2 m", "root"},
		// The first part's fault counts.
		{"x km^1/2", "none"}, {"km^1/2 x", "root"}, {"m km^1/2 x m", "root"}, {"m x km^1/2 m", "none"},
	} {
		want := strings.Replace(c[1], " m^0", "", 1)
		checkMeant(t, b, partsOf(c[0]), want)
	}
	checkMeant(t, impl.Book{}, nil, "1 1")
	checkMeant(t, impl.Book{}, []impl.Part{}, "1 1")
	checkMeant(t, impl.Book{}, partsOf("m"), "none")
	checkMeant(t, impl.Book{}, partsOf("m^0"), "none")
	checkMeant(t, bookOf("unit dozen 12", "prefix k 1000"), partsOf("dozen^2 kdozen^-1"), "3/250 1")
}

func TestMeasureOfWrongParts(t *testing.T) {
	b := plainBook()
	for n := range 20 {
		want := "book"
		if n <= impl.MaxParts {
			want = "1 " + textByWords(vecOf(1, n, 0, 0), b.Bases)
		}
		checkMeant(t, b, slices.Repeat(partsOf("m"), n), want)
		if n > impl.MaxParts {
			checkMeant(t, b, slices.Repeat(partsOf("m^0"), n), "book")
			checkMeant(t, b, slices.Repeat(partsOf("x"), n), "book")
		}
	}
	checkMeant(t, b, slices.Repeat(partsOf("m"), 1000000), "book")
	wrong := []impl.Part{{}, partOf("m", 0, 0), partOf("m", 2, 2), partOf("m", 0, 2), partOf("m", 13, 1), partOf("m", -13, 1), partOf("m", 1, 13), partOf("m", 1, -1), partOf("m", 1, 0), partOf("", 1, 1), partOf("m ", 1, 1), partOf("1", 1, 1), partOf("abcdefghijklm", 1, 1), partOf("m^2", 1, 1), partOf("m", math.MinInt, 1), partOf("m", 1, math.MinInt), partOf("m", math.MaxInt, 1), partOf("x", 2, 2)}
	// A part that isn't one counts ahead of all other faults, wherever it stands.
	for _, part := range wrong {
		for _, others := range []string{"", "m", "x", "km^1/2", "x x x x x x x", "m m m m m m m"} {
			list := partsOf(others)
			for at := range len(list) + 1 {
				checkMeant(t, b, slices.Insert(slices.Clone(list), at, part), "book")
			}
		}
	}
}

func TestMeasureWhereNumbersGetTooLarge(t *testing.T) {
	half := twoTo(640)
	b := bookOf("base m", "unit a "+half.String()+" 0", "unit b "+twoPower(639)+" 0", "unit c "+twoPower(-640)+" 0", "unit d "+twoPower(1278)+" 0", "unit e "+greatest().String()+" 0", "unit f 2 0", "unit g "+twoPower(-1279)+" 0", "unit h "+twoPower(107)+" 0", "unit i "+twoPower(106)+" 0", "prefix k "+half.String())
	power := func(n int) string { return ratOracle(ratOfText(twoPower(n))).RatString() + " 1" }
	for _, c := range [][2]string{
		{"a", power(640)}, {"a^2", "large"}, {"a^-2", "large"}, {"b^2", power(1278)}, {"b^-2", power(-1278)}, {"a b", power(1279)}, {"a a", "large"}, {"a b f", "large"}, {"a^-1 a^-1", "large"}, {"a c", power(0)}, {"a a c", "large"}, {"a c a", power(640)}, {"c a a", power(640)}, {"c c", "large"}, {"c c a", "large"}, {"c^2", "large"}, {"c^-2", "large"}, {"c^-1", power(640)},
		{"d^1/2", power(639)}, {"d^3/2", "large"}, {"d^-3/2", "large"}, {"d^1/3 d^1/3 d^1/3", power(1278)}, {"d^2/3", power(852)}, {"d^5/6", power(1065)}, {"d^7/6", "large"}, {"d f", power(1279)}, {"d f f", "large"}, {"f f d", "large"}, {"f d f", "large"}, {"d^1/4", "root"}, {"e", greatest().String() + " 1"}, {"e^2", "large"}, {"e e^-1", "1 1"}, {"e f", "large"}, {"f e", "large"}, {"f^-1 e", greatest().String() + "/2 1"}, {"e f^-1", greatest().String() + "/2 1"}, {"e^-1 f^-1", "large"},
		{"g", power(-1279)}, {"g f", power(-1278)}, {"g f^-1", "large"}, {"g^-1 f", "large"}, {"g^0", "1 1"}, {"e^0 d^0 a^0", "1 1"}, {"h^12", "large"}, {"h^-12", "large"}, {"h^11", power(1177)}, {"i^12", power(1272)}, {"i^-12", power(-1272)}, {"f^12", power(12)},
		// In one part: none ahead of root ahead of large.
		{"ka", "none"}, {"ka^2", "none"}, {"kb", power(1279)}, {"kb^2", "large"}, {"kb^1/2", "root"}, {"kb^3/2", "root"}, {"ka^1/3", "none"}, {"kd", "none"}, {"kf^3/2", "root"}, {"g^12/5", "root"}, {"g^5/3", "root"}, {"g^3", "large"},
		// In several: the first.
		{"a^2 x", "large"}, {"x a^2", "none"}, {"a^2 f^1/2", "large"}, {"f^1/2 a^2", "root"}, {"a a f^1/2", "large"}, {"a f^1/2 a", "root"}, {"a x a", "none"}, {"a a x", "large"}, {"ka f^1/2", "none"}, {"f^1/2 ka", "root"},
	} {
		checkMeant(t, b, partsOf(c[0]), c[1])
	}
}

func TestMeasureWherePowersGetTooLarge(t *testing.T) {
	b := bookOf("base m", "base s", "unit up 1 100000 0", "unit two 4 50000 1", "unit low 1 0 -100000", "unit den 1 1/720 0", "unit dan 64 0 1/719", "unit sev 1 1/7 0", "unit odd 2 100000 0", "unit fit 1 1/60 0", "unit big "+greatest().String()+" 100000 0")
	for _, c := range [][2]string{
		{"up", "1 m^100000"}, {"up^2", "large"}, {"up^-1", "1 m^-100000"}, {"up^-2", "large"}, {"up^1/2", "1 m^50000"}, {"up^3/2", "large"}, {"up m", "large"}, {"m up", "large"}, {"up m^-1", "1 m^99999"}, {"m^-1 up", "1 m^99999"}, {"m^-1 up m", "1 m^100000"}, {"up m m^-1", "large"}, {"up s", "1 m^100000 s"}, {"up up^-1", "1 1"}, {"up^0", "1 1"}, {"up m^0", "1 m^100000"},
		{"two^2", "16 m^100000 s^2"}, {"two two", "16 m^100000 s^2"}, {"two two m^-1", "16 m^99999 s^2"}, {"two two two", "large"}, {"two^3", "large"}, {"two^1/2", "2 m^25000 s^1/2"}, {"two^3/2", "large"}, {"two^5/2", "large"}, {"low", "1 s^-100000"}, {"low s^-1", "large"}, {"low^2", "large"}, {"low^-1", "1 s^100000"}, {"low s", "1 s^-99999"},
		{"den", "1 m^1/720"}, {"den^2", "1 m^1/360"}, {"den^1/2", "large"}, {"den^5/2", "1 m^1/288"}, {"den^2/3", "large"}, {"den^3/2", "1 m^1/480"}, {"den^12/7", "1 m^1/420"}, {"den^-12/5", "1 m^-1/300"}, {"den s^1/2", "1 m^1/720 s^1/2"}, {"den s^1/7", "large"}, {"s^1/7 den", "large"}, {"den m", "1 m^721/720"}, {"den up", "large"}, {"up den", "large"}, {"dan", "64 s^1/719"}, {"dan^1/2", "large"}, {"dan^0", "1 1"}, {"dan m^1/2", "large"}, {"dan m", "64 m s^1/719"}, {"dan s", "64 s^720/719"}, {"dan dan", "4096 s^2/719"}, {"dan den", "large"}, {"sev den", "large"}, {"den sev", "large"}, {"sev^7 den", "1 m^721/720"}, {"sev^1/12", "1 m^1/84"}, {"fit^1/12", "1 m^1/720"}, {"fit^1/11", "1 m^1/660"}, {"fit^1/7 s^1/2", "1 m^1/420 s^1/2"}, {"fit^1/7 s^1/8", "large"}, {"fit^7/12 fit^5/12", "1 m^1/60"},
		// In one part: none ahead of root ahead of large, also for powers.
		{"odd^3/2", "root"}, {"odd^1/2", "root"}, {"odd^2", "large"}, {"odd", "2 m^100000"}, {"big^2", "large"}, {"big^3/2", "root"}, {"dan^1/3", "large"}, {"dan^1/4", "root"}, {"x^12", "none"},
		{"up m x", "large"}, {"up x m", "none"}, {"up m odd^1/2", "large"}, {"up odd^1/2 m", "root"},
	} {
		checkMeant(t, b, partsOf(c[0]), c[1])
	}
}

func TestAddBaseOfEachCode(t *testing.T) {
	b := plainBook()
	full := sizedBook(6, 2, 3)
	wrong := bookOf("base m", "base m")
	for _, c := range []struct {
		b    impl.Book
		name string
		want int
	}{
		{impl.Book{}, "m", impl.BkOk}, {b, "A", impl.BkOk}, {b, "abcdefghijkl", impl.BkOk}, {b, "k", impl.BkOk}, {b, "da", impl.BkOk}, {b, "mm", impl.BkOk}, {b, "kN", impl.BkOk}, {sizedBook(5, 12, 24), "A", impl.BkOk}, {sizedBook(5, 0, 0), "A", impl.BkOk},
		{b, "m", impl.BkName}, {b, "kg", impl.BkName}, {b, "N", impl.BkName}, {b, "km", impl.BkName}, {b, "one", impl.BkName}, {b, "", impl.BkName}, {b, "1", impl.BkName}, {b, "abcdefghijklm", impl.BkName}, {b, "m s", impl.BkName}, {impl.Book{}, "", impl.BkName},
		{full, "A", impl.BkFull}, {full, "p0", impl.BkFull}, {full, "b0", impl.BkName}, {full, "u2", impl.BkName}, {full, "", impl.BkName}, {full, "abcdefghijklm", impl.BkName}, {sizedBook(6, 0, 0), "A", impl.BkFull},
		{wrong, "A", impl.BkBook}, {wrong, "m", impl.BkBook}, {wrong, "", impl.BkBook}, {sizedBook(7, 0, 0), "A", impl.BkBook}, {sizedBook(7, 0, 0), "b0", impl.BkBook}, {sizedBook(6, 13, 0), "A", impl.BkBook}, {sizedBook(6, 0, 25), "", impl.BkBook},
	} {
		if code := checkAddBase(t, c.b, c.name); code != c.want {
			t.Errorf("AddBase of %q: %d, wanted %d", c.name, code, c.want)
		}
	}
	for _, name := range namesThatAreNone() {
		if checkAddBase(t, b, name) != impl.BkName || checkAddBase(t, full, name) != impl.BkName {
			t.Errorf("AddBase of %.50q", name)
		}
	}
}

// Each Dim gets a 0 behind; what units mean stays as it was.
func TestAddBaseLeavesUnitsAsTheyWere(t *testing.T) {
	b := impl.Book{}
	for n := range impl.MaxBases {
		name := "B" + strconv.Itoa(n)
		more, code := impl.AddBase(b, name)
		if code != impl.BkOk || len(more.Bases) != n+1 || more.Bases[n] != name || !slices.Equal(more.Bases[:n], b.Bases) || len(more.Units) != len(b.Units) {
			t.Fatalf("AddBase of %s: %v and %d", name, more, code)
		}
		for i, unit := range more.Units {
			if unit.Name != b.Units[i].Name || !sameRat(unit.Num, b.Units[i].Num) || !sameVec(unit.Dim, vecOf(b.Units[i].Dim.Den, append(slices.Clone(b.Units[i].Dim.At), 0)...)) {
				t.Errorf("the unit %v is %v behind one base more", b.Units[i], unit)
			}
		}
		found, dim, ok := impl.Find(more, name)
		if !ok || !sameRat(found, ratOfInts(1, 1)) || !sameVec(dim, impl.UnitVec(n+1, n)) {
			t.Errorf("%s means %v %v %v", name, found, dim, ok)
		}
		b = more
		for i, parts := range []string{"", name + "^-1/2", name + "^12 B0^1/3"} {
			b, code = impl.AddUnit(b, "u"+strconv.Itoa(3*n+i), ratOfInts(7, i+1), partsOf(parts))
			if code != impl.BkOk {
				t.Fatal("AddUnit", parts, code)
			}
		}
	}
	if code := checkAddBase(t, b, "more"); code != impl.BkFull {
		t.Errorf("one base too many: %d", code)
	}
}

func TestAddPrefixOfEachCode(t *testing.T) {
	b, full, wrong := plainBook(), sizedBook(2, 12, 3), bookOf("prefix k 1", "prefix k 1")
	good := ratOfInts(5, 2)
	bad := append(wrongRats(), ratOfInts(0, 1), ratOfInts(-1, 1), ratOfInts(-5, 2))
	for _, c := range []struct {
		b    impl.Book
		name string
		want int
	}{
		{impl.Book{}, "k", impl.BkOk}, {b, "M", impl.BkOk}, {b, "abcdefghijkl", impl.BkOk}, {b, "kg", impl.BkOk}, {b, "N", impl.BkOk}, {b, "km", impl.BkOk}, {b, "kk", impl.BkOk}, {b, "mm", impl.BkOk}, {sizedBook(6, 11, 24), "M", impl.BkOk}, {sizedBook(0, 11, 0), "M", impl.BkOk},
		{b, "k", impl.BkName}, {b, "m", impl.BkName}, {b, "da", impl.BkName}, {b, "", impl.BkName}, {b, "1", impl.BkName}, {b, "abcdefghijklm", impl.BkName}, {full, "p0", impl.BkName}, {full, "p11", impl.BkName}, {full, "", impl.BkName},
		{full, "M", impl.BkFull}, {full, "b0", impl.BkFull}, {full, "u0", impl.BkFull}, {sizedBook(0, 12, 0), "M", impl.BkFull},
		{wrong, "M", impl.BkBook}, {wrong, "k", impl.BkBook}, {wrong, "", impl.BkBook}, {sizedBook(0, 13, 0), "M", impl.BkBook}, {sizedBook(0, 13, 0), "p0", impl.BkBook}, {sizedBook(7, 12, 0), "M", impl.BkBook},
	} {
		if code := checkAddPrefix(t, c.b, c.name, good); code != c.want {
			t.Errorf("AddPrefix of %q: %d, wanted %d", c.name, code, c.want)
		}
		want := c.want
		if want == impl.BkOk {
			want = impl.BkNum
		}
		for _, num := range bad {
			if code := checkAddPrefix(t, c.b, c.name, num); code != want {
				t.Errorf("AddPrefix of %q and %v: %d, wanted %d", c.name, num, code, want)
			}
		}
	}
	for _, name := range namesThatAreNone() {
		if checkAddPrefix(t, b, name, good) != impl.BkName || checkAddPrefix(t, full, name, bad[0]) != impl.BkName {
			t.Errorf("AddPrefix of %.50q", name)
		}
	}
	for _, num := range edgeRats() {
		want := impl.BkNum
		if ratOracle(num).Sign() > 0 {
			want = impl.BkOk
		}
		if code := checkAddPrefix(t, b, "M", num); code != want {
			t.Errorf("AddPrefix of %v: %d", num, code)
		}
	}
}

func TestAddUnitOfEachCode(t *testing.T) {
	b, full, wrong := plainBook(), sizedBook(2, 3, 24), bookOf("base m", "unit m 1 1")
	good, zero := ratOfInts(5, 2), impl.Rat{}
	most := fromOracle(greatest())
	large, small := impl.Rat{Num: most, Den: impl.FromInt(1)}, impl.Rat{Num: impl.FromInt(1), Den: most}
	for _, c := range []struct {
		b     impl.Book
		name  string
		num   impl.Rat
		parts []impl.Part
		want  int
	}{
		{impl.Book{}, "dozen", ratOfInts(12, 1), nil, impl.BkOk}, {b, "J", good, partsOf("N m"), impl.BkOk}, {b, "k", good, nil, impl.BkOk}, {b, "da", good, partsOf("ha^1/2"), impl.BkOk}, {b, "mm", good, partsOf("mm"), impl.BkOk}, {b, "abcdefghijkl", good, partsOf("kkm"), impl.BkOk}, {sizedBook(6, 12, 23), "J", good, partsOf("b0"), impl.BkOk}, {b, "J", large, nil, impl.BkOk}, {b, "J", small, partsOf("m"), impl.BkOk}, {b, "J", large, partsOf("km^-1"), impl.BkOk}, {b, "J", good, partsOf("m m m m m m m m"), impl.BkOk},
		{b, "m", good, nil, impl.BkName}, {b, "N", good, nil, impl.BkName}, {b, "km", good, nil, impl.BkName}, {b, "", good, nil, impl.BkName}, {b, "1", zero, partsOf("x"), impl.BkName}, {b, "one", zero, partsOf("km^1/2"), impl.BkName}, {full, "u0", good, nil, impl.BkName}, {full, "b1", zero, []impl.Part{{}}, impl.BkName}, {full, "abcdefghijklm", good, nil, impl.BkName},
		{full, "J", good, nil, impl.BkFull}, {full, "p0", good, nil, impl.BkFull}, {full, "J", zero, nil, impl.BkFull}, {full, "J", zero, []impl.Part{{}}, impl.BkFull}, {full, "J", good, partsOf("x"), impl.BkFull}, {full, "J", large, partsOf("u0"), impl.BkFull},
		{b, "J", zero, nil, impl.BkNum}, {b, "J", ratOfInts(0, 1), nil, impl.BkNum}, {b, "J", ratOfInts(-1, 1), nil, impl.BkNum}, {b, "J", ratOfInts(2, 4), nil, impl.BkNum}, {b, "J", zero, partsOf("x"), impl.BkNum}, {b, "J", zero, []impl.Part{{}}, impl.BkNum}, {b, "J", zero, partsOf("km^1/2"), impl.BkNum}, {b, "J", zero, partsOf("m m m m m m m m m"), impl.BkNum},
		{b, "J", good, []impl.Part{{}}, impl.BkBook}, {b, "J", good, partsOf("m m m m m m m m m"), impl.BkBook}, {b, "J", good, []impl.Part{partOf("x", 1, 1), partOf("m", 2, 2)}, impl.BkBook}, {b, "J", large, []impl.Part{partOf("km", 1, 1), partOf("m", 0, 0)}, impl.BkBook},
		{b, "J", good, partsOf("x"), impl.BkNone}, {b, "J", good, partsOf("J"), impl.BkNone}, {b, "J", good, partsOf("kJ"), impl.BkNone}, {b, "J", large, partsOf("km x"), impl.BkNone}, {b, "J", good, partsOf("km^1/2"), impl.BkRoot}, {b, "J", large, partsOf("km min^1/2 x"), impl.BkRoot},
		{b, "J", large, partsOf("km"), impl.BkLarge}, {b, "J", small, partsOf("km^-1"), impl.BkLarge}, {b, "J", large, partsOf("mm^-1"), impl.BkLarge}, {b, "J", small, partsOf("mm"), impl.BkLarge}, {bookOf("base m", "unit u 1 100000"), "J", good, partsOf("u m"), impl.BkLarge}, {bookOf("base m", "unit u 1 100000"), "J", good, partsOf("u^2"), impl.BkLarge},
		{wrong, "J", good, nil, impl.BkBook}, {wrong, "m", zero, nil, impl.BkBook}, {wrong, "", zero, []impl.Part{{}}, impl.BkBook}, {sizedBook(0, 0, 25), "J", good, nil, impl.BkBook}, {sizedBook(0, 0, 25), "u0", zero, nil, impl.BkBook},
	} {
		if code := checkAddUnit(t, c.b, c.name, c.num, c.parts); code != c.want {
			t.Errorf("AddUnit of %q, %v and %v: %d, wanted %d", c.name, c.num, c.parts, code, c.want)
		}
	}
	for _, name := range namesThatAreNone() {
		if checkAddUnit(t, b, name, good, nil) != impl.BkName || checkAddUnit(t, full, name, zero, []impl.Part{{}}) != impl.BkName {
			t.Errorf("AddUnit of %.50q", name)
		}
	}
	for _, num := range append(edgeRats(), wrongRats()...) {
		want := impl.BkNum
		if aboveByWords(num) {
			want = impl.BkOk
		}
		if code := checkAddUnit(t, b, "J", num, nil); code != want {
			t.Errorf("AddUnit of %v: %d", num, code)
		}
	}
}

// checkAddedUnit wants a unit that is added to mean what it was said to mean, and the others what they meant.
func checkAddedUnit(t *testing.T, b impl.Book, name string, num impl.Rat, parts []impl.Part) {
	t.Helper()
	more, code := impl.AddUnit(b, name, num, parts)
	if code != impl.BkOk {
		return
	}
	said, dim, _ := impl.Measure(b, parts)
	said, _ = impl.RatMul(num, said)
	found, foundDim, ok := impl.Find(more, name)
	if !ok || !sameRat(found, said) || !sameVec(foundDim, dim) {
		t.Errorf("%q as %v of %v means %v %v", name, num, parts, found, foundDim)
	}
	found, foundDim, code = impl.Measure(more, []impl.Part{partOf(name, 1, 1)})
	if code != impl.BkOk || !sameRat(found, said) || !sameVec(foundDim, dim) {
		t.Errorf("%q as %v of %v is measured as %v %v, %d", name, num, parts, found, foundDim, code)
	}
	last := more.Units[len(more.Units)-1]
	if last.Name != name || !sameRat(last.Num, said) || !sameVec(last.Dim, dim) || len(more.Units) != len(b.Units)+1 {
		t.Errorf("%q as %v of %v is the unit %v", name, num, parts, last)
	}
	if kept := (impl.Book{Bases: more.Bases, Prefixes: more.Prefixes, Units: more.Units[:len(b.Units)]}); !sameBook(kept, b) {
		t.Errorf("AddUnit changes %v to %v", b, kept)
	}
	// Where the parts don't name it, its number is what it is converted to them by.
	named := func(p impl.Part) bool { return strings.HasSuffix(p.Name, name) }
	if factor, ok := impl.Convert(more, []impl.Part{partOf(name, 1, 1)}, parts); !slices.ContainsFunc(parts, named) && (!ok || !sameRat(factor, num)) {
		t.Errorf("%q as %v of %v is converted to them by %v %v", name, num, parts, factor, ok)
	}
}

func TestUnitsThatAreAddedMeanWhatWasSaid(t *testing.T) {
	b := plainBook()
	for _, parts := range []string{"", "m", "N m", "ha^1/2 min^-2", "kkm^-3", "rt^-6", "mm^0", "kN^1/3 dam", "m m m m m m m m", "km", "mm", "am one^1/12"} {
		for _, num := range append(greatRats(), ratOfInts(1, 1), ratOfInts(3, 7), ratOfInts(1, 1000000)) {
			for _, name := range []string{"J", "k", "mm", "dm", "kkm", "abcdefghijkl", "da", "x"} {
				checkAddedUnit(t, b, name, num, partsOf(parts))
			}
		}
	}
	// A unit takes the place of what a prefix made: for it, and behind a prefix.
	more, code := impl.AddUnit(b, "mm", ratOfInts(2, 1), partsOf("mm s"))
	if code != impl.BkOk {
		t.Fatal(code)
	}
	checkFound(t, more, "mm", "1/500 m s")
	checkFound(t, more, "kmm", "2 m s")
	checkFound(t, b, "kmm", "")
	// A prefix that is added changes nothing that was found before.
	more, code = impl.AddPrefix(b, "dk", ratOfInts(2, 1))
	if code != impl.BkOk {
		t.Fatal(code)
	}
	checkFound(t, more, "dkm", "1/2 m")
	checkFound(t, more, "dkN", "2 m s^-2 kg")
	// Each is measured by the ones that were added ahead of it.
	whole := bookOf("base m")
	for i := range impl.MaxUnits {
		parts := "m"
		if i > 0 {
			parts = "u" + strconv.Itoa(i-1)
		}
		checkAddedUnit(t, whole, "u"+strconv.Itoa(i), ratOfInts(3, 1), partsOf(parts))
		whole, code = impl.AddUnit(whole, "u"+strconv.Itoa(i), ratOfInts(3, 1), partsOf(parts))
		if code != impl.BkOk {
			t.Fatal(i, code)
		}
	}
	checkFound(t, whole, "u23", "282429536481 m")
}

// checkBy wants what is converted to be multiplied by a number; refused where it is empty.
func checkBy(t *testing.T, b impl.Book, from string, to string, want string) {
	t.Helper()
	number, ok := impl.Convert(b, partsOf(from), partsOf(to))
	got := ""
	if ok {
		got = ratOracle(number).RatString()
	}
	if got != want || !ok && !isZeroRat(number) {
		t.Errorf("Convert of %s to %s: %.300q, wanted %.300q", from, to, got, want)
	}
	checkConvert(t, b, partsOf(from), partsOf(to))
}

func TestConvertAtEdges(t *testing.T) {
	b := plainBook()
	for _, c := range [][3]string{
		{"", "", "1"}, {"m", "m", "1"}, {"km", "m", "5"}, {"m", "km", "1/5"}, {"kkm", "mm", "5000000"}, {"mm", "kkm", "1/5000000"}, {"ha", "m^2", "10000"}, {"m^2", "ha", "1/10000"}, {"ha^1/2", "m", "100"}, {"ha", "dam^2", "100"}, {"N", "kg m s^-2", "1"}, {"kN", "kkg m s^-2", "1"}, {"N", "m kg s^-1 s^-1", "1"}, {"km min^-1", "m s^-1", "1/12"}, {"m s^-1", "km min^-1", "12"}, {"rt^6", "m^3 kg^-2", "1/4096"}, {"min^2", "s min", "60"}, {"km^0", "", "1"}, {"", "one", "1"}, {"done", "", "1/10"}, {"", "done", "10"}, {"m m^-1", "s^2 s^-2", "1"}, {"kkg kkg", "kg^2", "1000000"}, {"m m m m m m m m", "km^8", "1/390625"},
		{"m", "", ""}, {"", "m", ""}, {"m", "s", ""}, {"m", "m^2", ""}, {"m", "m^-1", ""}, {"N", "kg m s^-1", ""}, {"ha", "m", ""}, {"m^1/2", "m^1/3", ""}, {"rt", "m^1/2", ""}, {"m s", "m", ""}, {"m^2 s^2", "m s", ""},
		{"x", "m", ""}, {"m", "x", ""}, {"x", "x", ""}, {"km^1/2", "km^1/2", ""}, {"km^1/2", "m^1/2", ""}, {"m^1/2", "km^1/2", ""}, {"m", "m x", ""}, {"m^2/2", "m", ""}, {"m", "m^2/2", ""}, {"m m m m m m m m m", "m^9", ""}, {"m^9", "m m m m m m m m m", ""}, {"k", "k", ""}, {"", "x^0", ""},
	} {
		checkBy(t, b, c[0], c[1], c[2])
	}
	checkBy(t, impl.Book{}, "", "", "1")
	checkBy(t, impl.Book{}, "m", "m", "")
	great := bookOf("base m", "unit a "+twoPower(640)+" 0", "unit b "+twoPower(639)+" 0", "unit c "+twoPower(-640)+" 0", "unit d "+twoPower(-639)+" 0", "unit e "+greatest().String()+" 1", "unit f "+greatest().String()+" 0", "unit g 2 0", "unit h 100 100000")
	for _, c := range [][3]string{
		{"a", "c", ""}, {"c", "a", ""}, {"a", "d", twoPower(1279)}, {"d", "a", twoPower(-1279)}, {"a", "a", "1"}, {"a b", "b a", "1"}, {"a a", "a a", ""}, {"a", "b", "2"}, {"b", "a", "1/2"}, {"f", "f", "1"}, {"f", "g", greatest().String() + "/2"}, {"g", "f", "2/" + greatest().String()}, {"f", "g^-1", ""}, {"g^-1", "f", ""}, {"", "f", "1/" + greatest().String()}, {"f", "", greatest().String()}, {"e", "m", greatest().String()}, {"e", "", ""}, {"h", "h", "1"}, {"h m", "h m", ""}, {"h m^-1", "h m^-1", "1"},
	} {
		checkBy(t, great, c[0], c[1], c[2])
	}
	for _, parts := range [][]impl.Part{{{}}, {partOf("m", 2, 2)}, {partOf("m", 0, 0)}, slices.Repeat(partsOf("m"), 1000000)} {
		for _, other := range [][]impl.Part{nil, partsOf("m"), parts} {
			if checkConvert(t, b, parts, other) || checkConvert(t, b, other, parts) {
				t.Errorf("Convert of %s", clipped(parts))
			}
		}
	}
}

var namesThatMeet = []string{"m", "s", "k", "a", "km", "am", "ma", "mm", "kk", "kkm", "ak", "aam", "s_", "abcdefghijkl", "kabcdefghijk"}

// chanceNumber is above 0: mostly one that has roots.
func chanceNumber(r *rand.Rand) impl.Rat {
	numbers := []string{"1", "2", "4", "64", "1000", "1/1000", "4096", "1/4096", "729/64", "5/3", "16777216", twoPower(640), twoPower(-640), twoPower(106), twoPower(1278), twoPower(-1272), greatest().String(), "1/" + greatest().String(), "22/7"}
	if r.Intn(8) > 0 {
		return ratOfText(numbers[r.Intn(len(numbers)-r.Intn(2)*8)])
	}
	return chanceMeasure(r)
}

// chanceBook is right; its names often meet.
func chanceBook(r *rand.Rand) impl.Book {
	b := impl.Book{}
	measures, ahead := slices.Clone(namesThatMeet), slices.Clone(namesThatMeet)
	r.Shuffle(len(measures), func(i int, j int) { measures[i], measures[j] = measures[j], measures[i] })
	r.Shuffle(len(ahead), func(i int, j int) { ahead[i], ahead[j] = ahead[j], ahead[i] })
	bases := r.Intn(impl.MaxBases + 1)
	b.Bases = measures[:bases]
	for _, name := range measures[bases : bases+r.Intn(len(measures)-bases+1)] {
		b.Units = append(b.Units, impl.Unit{Name: name, Num: chanceNumber(r), Dim: chanceVec(r, bases)})
	}
	for _, name := range ahead[:r.Intn(impl.MaxPrefixes+1)] {
		b.Prefixes = append(b.Prefixes, impl.Prefix{Name: name, Num: chanceNumber(r)})
	}
	return b
}

// madeName is now and then one that a prefix makes.
func madeName(r *rand.Rand, b impl.Book) string {
	name := namesThatMeet[r.Intn(len(namesThatMeet))]
	if names := measureNames(b); len(names) > 0 && r.Intn(5) > 0 {
		name = names[r.Intn(len(names))]
	}
	if len(b.Prefixes) > 0 && r.Intn(2) == 0 {
		name = b.Prefixes[r.Intn(len(b.Prefixes))].Name + name
	}
	return name
}

// chancePartsOf are parts by names that the book knows, mostly.
func chancePartsOf(r *rand.Rand, b impl.Book) []impl.Part {
	var list []impl.Part
	for n := r.Intn(5) * r.Intn(3); len(list) < n; {
		p := partOf(madeName(r, b), r.Intn(7)-3, 1+r.Intn(3)*r.Intn(2))
		if r.Intn(6) == 0 {
			p.P, p.Q = r.Intn(25)-12, 1+r.Intn(12)
		}
		if rightPart(p) || r.Intn(60) == 0 {
			list = append(list, p)
		}
	}
	return list
}

func TestChanceBooks(t *testing.T) {
	r := rand.New(rand.NewSource(81))
	codes, converted := [8]int{}, 0
	for range 1200 {
		b := chanceBook(r)
		if !bookByWords(b) || !impl.BookOk(b) {
			t.Fatalf("%v is right", b)
		}
		for range 4 {
			checkFind(t, b, madeName(r, b))
			parts := chancePartsOf(r, b)
			codes[checkMeasure(t, b, parts)]++
			name, num := madeName(r, b), chanceNumber(r)
			codes[checkAddBase(t, b, name)]++
			codes[checkAddPrefix(t, b, name, num)]++
			codes[checkAddUnit(t, b, name, num, parts)]++
			checkAddedUnit(t, b, name, num, parts)
			other := slices.Clone(parts)
			r.Shuffle(len(other), func(i int, j int) { other[i], other[j] = other[j], other[i] })
			if checkConvert(t, b, parts, other) {
				converted++
			}
			checkConvert(t, b, parts, chancePartsOf(r, b))
		}
		if t.Failed() {
			return
		}
	}
	for code, count := range codes {
		if count < 30 && code != impl.BkNum {
			t.Errorf("code %d only %d times: %v", code, count, codes)
		}
	}
	if converted < 1000 {
		t.Error("too few are converted:", converted)
	}
}

// likeParts mean the same powers as the given ones, by other names and numbers: a book of several units of each dimension.
func likeParts(r *rand.Rand, parts []impl.Part) []impl.Part {
	kin := [][]string{{"m", "km", "in", "kin", "cm"}, {"s", "min", "h", "ms"}, {"N", "kN", "lbf"}}
	var list []impl.Part
	for _, p := range parts {
		for _, names := range kin {
			if slices.Contains(names, p.Name) {
				p.Name = names[r.Intn(len(names))]
			}
		}
		list = append(list, p)
	}
	r.Shuffle(len(list), func(i int, j int) { list[i], list[j] = list[j], list[i] })
	return list
}

func TestWhatIsConvertedThereAndBackIsAsItWas(t *testing.T) {
	b := bookOf("base m", "base s", "base kg", "prefix k 1000", "prefix c 1/100", "prefix m 1/1000", "unit in 127/5000 1 0 0", "unit min 60 0 1 0", "unit h 3600 0 1 0", "unit N 1 1 -2 1", "unit lbf 8896443230521/2000000000000 1 -2 1")
	names := []string{"m", "km", "in", "kin", "cm", "s", "min", "h", "ms", "N", "kN", "lbf"}
	r := rand.New(rand.NewSource(82))
	there, parted := 0, 0
	for range 2500 {
		var from []impl.Part
		for range r.Intn(impl.MaxParts + 1) {
			from = append(from, partOf(names[r.Intn(len(names))], r.Intn(9)-4, 1))
		}
		to := likeParts(r, from)
		if r.Intn(10) == 0 {
			to = append(to[:len(to):len(to)], partOf("m", 1, 1))
		}
		forth, ok := impl.Convert(b, from, to)
		back, backOk := impl.Convert(b, to, from)
		checkConvert(t, b, from, to)
		if ok != backOk {
			t.Errorf("%v to %v: %v there, %v back", from, to, ok, backOk)
		}
		if !ok {
			parted++
			continue
		}
		there++
		x := chanceMeasure(r)
		told, _ := impl.RatMul(x, forth)
		if again, ok := impl.RatMul(told, back); impl.RatOk(told) && (!ok || !sameRat(again, x)) {
			t.Errorf("%v of %v isn't as it was behind %v: %v", x, from, to, again)
		}
		if one, ok := impl.RatMul(forth, back); !ok || !sameRat(one, ratOfInts(1, 1)) {
			t.Errorf("%v to %v and back: by %v", from, to, one)
		}
		if self, ok := impl.Convert(b, from, from); !ok || !sameRat(self, ratOfInts(1, 1)) {
			t.Errorf("%v to itself: by %v %v", from, self, ok)
		}
		// By way of a third it is the same.
		third := likeParts(r, from)
		first, firstOk := impl.Convert(b, from, third)
		second, secondOk := impl.Convert(b, third, to)
		if whole, ok := impl.RatMul(first, second); firstOk && secondOk && ok && !sameRat(whole, forth) {
			t.Errorf("%v to %v to %v: by %v, wanted %v", from, third, to, whole, forth)
		}
	}
	if there < 1500 || parted < 100 {
		t.Error("too few of a kind:", there, parted)
	}
}

// spoiledBook has one thing changed; mostly it isn't right any more.
func spoiledBook(r *rand.Rand, b impl.Book) impl.Book {
	b = copyOfBook(b)
	odd := func() string { return append(namesThatAreNone()[:20], namesThatMeet...)[r.Intn(20+len(namesThatMeet))] }
	switch kind := r.Intn(9); {
	case kind == 0:
		b.Bases = append(b.Bases, odd())
	case kind == 1:
		b.Prefixes = append(b.Prefixes, impl.Prefix{Name: odd(), Num: chanceNumber(r)})
	case kind == 2:
		b.Units = append(b.Units, impl.Unit{Name: odd(), Num: chanceNumber(r), Dim: chanceVec(r, r.Intn(9))})
	case kind == 3 && len(b.Bases) > 0:
		b.Bases[r.Intn(len(b.Bases))] = odd()
	case kind == 4 && len(b.Prefixes) > 0:
		b.Prefixes[r.Intn(len(b.Prefixes))].Name = odd()
	case kind == 5 && len(b.Prefixes) > 0:
		b.Prefixes[r.Intn(len(b.Prefixes))].Num = wrongRats()[r.Intn(20)]
	case kind == 6 && len(b.Units) > 0:
		b.Units[r.Intn(len(b.Units))].Name = odd()
	case kind == 7 && len(b.Units) > 0:
		b.Units[r.Intn(len(b.Units))].Num = edgeRats()[r.Intn(40)]
	case kind == 8 && len(b.Units) > 0:
		b.Units[r.Intn(len(b.Units))].Dim = wrongVecs()[r.Intn(40)]
	}
	return b
}

func TestFunctionsOfUnitsAnswerAnything(t *testing.T) {
	r := rand.New(rand.NewSource(83))
	right := 0
	for range 2000 {
		b := spoiledBook(r, chanceBook(r))
		if r.Intn(3) == 0 {
			b = spoiledBook(r, b)
		}
		if bookByWords(b) {
			right++
		}
		if impl.BookOk(b) != bookByWords(b) {
			t.Errorf("BookOk of %v: %v", b, impl.BookOk(b))
		}
		name, parts := madeName(r, b), chancePartsOf(r, b)
		if r.Intn(4) == 0 {
			name = anyText(r)
		}
		if r.Intn(4) == 0 {
			parts = append(parts, partOf(anyText(r), r.Intn(40)-20, r.Intn(20)-5))
		}
		num := append(wrongRats()[:20], edgeRats()[:30]...)[r.Intn(50)]
		checkFind(t, b, name)
		checkMeasure(t, b, parts)
		checkAddBase(t, b, name)
		checkAddPrefix(t, b, name, num)
		checkAddUnit(t, b, name, num, parts)
		checkConvert(t, b, parts, chancePartsOf(r, b))
		checkConvert(t, b, chancePartsOf(r, b), parts)
		if t.Failed() {
			return
		}
	}
	if right < 200 || right > 1800 {
		t.Error("of 2000 are right:", right)
	}
}

// withSpare is the same list with room behind it that is filled.
func withSpare[T any](list []T, spare T) []T {
	return append(slices.Clone(list), spare, spare, spare)[:len(list)]
}

// bookRooms is a record of the memory of books, numbers and parts, with the spare room behind each list and name.
type bookRooms struct {
	stmtRooms
	bases    [][]string
	prefixes [][]impl.Prefix
	units    [][]impl.Unit
	powers   [][]int
}

func (record *bookRooms) roomyNumber(r impl.Rat) impl.Rat {
	r = roomyRat(r, 7)
	record.limbs = append(record.limbs, wholeRoom(r.Num), wholeRoom(r.Den))
	return r
}

func (record *bookRooms) roomyParts(list []impl.Part) []impl.Part {
	return record.roomyStmts([]impl.Stmt{{Parts: list}})[0].Parts
}

func (record *bookRooms) roomyBook(b impl.Book) impl.Book {
	var told impl.Book
	for _, base := range b.Bases {
		told.Bases = append(told.Bases, record.roomyText(base))
	}
	for _, p := range b.Prefixes {
		told.Prefixes = append(told.Prefixes, impl.Prefix{Name: record.roomyText(p.Name), Num: record.roomyNumber(p.Num)})
	}
	for _, u := range b.Units {
		u = impl.Unit{Name: record.roomyText(u.Name), Num: record.roomyNumber(u.Num), Dim: roomyVec(u.Dim, 7)}
		record.powers = append(record.powers, vecRoom(u.Dim))
		told.Units = append(told.Units, u)
	}
	told = impl.Book{Bases: withSpare(told.Bases, "spare"), Prefixes: withSpare(told.Prefixes, impl.Prefix{Name: "spare"}), Units: withSpare(told.Units, impl.Unit{Name: "spare"})}
	record.bases = append(record.bases, told.Bases[:cap(told.Bases)])
	record.prefixes = append(record.prefixes, told.Prefixes[:cap(told.Prefixes)])
	record.units = append(record.units, told.Units[:cap(told.Units)])
	return told
}

// spansOfBook are all pieces of memory that a book holds, with their spare room.
func spansOfBook(b impl.Book) []span {
	all := []span{spanOf(b.Bases), spanOf(b.Prefixes), spanOf(b.Units)}
	for _, base := range b.Bases {
		all = append(all, spanOfText(base))
	}
	for _, p := range b.Prefixes {
		all = append(all, spanOfText(p.Name), spanOf(p.Num.Num.Limbs), spanOf(p.Num.Den.Limbs))
	}
	for _, u := range b.Units {
		all = append(all, spanOfText(u.Name), spanOf(u.Num.Num.Limbs), spanOf(u.Num.Den.Limbs), spanOf(u.Dim.At))
	}
	return slices.DeleteFunc(all, func(s span) bool { return s.from == s.to })
}

// standing is all that stands in the rooms, where it can be compared.
func (record *bookRooms) standing() string {
	text := record.writtenThere()
	for i, bases := range record.bases {
		all := impl.Book{Bases: bases, Prefixes: record.prefixes[i], Units: record.units[i]}
		text += fmt.Sprint(all, spansOfBook(all))
	}
	return text + fmt.Sprint(record.powers)
}

func (record *bookRooms) allSpans() []span {
	list := record.spansThere()
	for _, room := range record.powers {
		list = append(list, spanOf(room))
	}
	for i, bases := range record.bases {
		list = append(list, spanOf(bases), spanOf(record.prefixes[i]), spanOf(record.units[i]))
	}
	return slices.DeleteFunc(list, func(s span) bool { return s.from == s.to })
}

// overwriteAll writes into all of the rooms.
func (record *bookRooms) overwriteAll() {
	record.overwriteNames()
	for _, room := range record.limbs {
		scribble(room)
	}
	for _, room := range record.powers {
		for i := range room {
			room[i] = 77
		}
	}
	for i := range record.bases {
		clear(record.bases[i])
		clear(record.prefixes[i])
		clear(record.units[i])
	}
	for _, room := range record.parts {
		clear(room)
	}
}

// unitAnswer is what any function of units tells.
type unitAnswer struct {
	book   impl.Book
	number impl.Rat
	dim    impl.Vec
	code   int
	ok     bool
}

func sameUnitAnswer(a unitAnswer, b unitAnswer) bool {
	return sameBook(a.book, b.book) && sameRat(a.number, b.number) && sameVec(a.dim, b.dim) && a.code == b.code && a.ok == b.ok
}

func (a unitAnswer) spans() []span {
	list := append(spansOfBook(a.book), spanOf(a.number.Num.Limbs), spanOf(a.number.Den.Limbs), spanOf(a.dim.At))
	return slices.DeleteFunc(list, func(s span) bool { return s.from == s.to })
}

// overwrite writes into all of an answer that can be written into, its texts left out.
func (a unitAnswer) overwrite() {
	numbers, dims := []impl.Rat{a.number}, []impl.Vec{a.dim}
	for _, p := range a.book.Prefixes {
		numbers = append(numbers, p.Num)
	}
	for _, u := range a.book.Units {
		numbers, dims = append(numbers, u.Num), append(dims, u.Dim)
	}
	for _, room := range ratRooms(numbers...) {
		scribble(room)
	}
	for _, dim := range dims {
		for i := range vecRoom(dim) {
			vecRoom(dim)[i] = -5
		}
	}
	clear(a.book.Bases[:cap(a.book.Bases)])
	clear(a.book.Prefixes[:cap(a.book.Prefixes)])
	clear(a.book.Units[:cap(a.book.Units)])
}

// unitCall has all that a function of units may be given.
type unitCall struct {
	book  impl.Book
	name  string
	num   impl.Rat
	parts []impl.Part
	to    []impl.Part
}

func unitCalls() map[string]func(c unitCall) unitAnswer {
	return map[string]func(c unitCall) unitAnswer{
		"BookOk": func(c unitCall) unitAnswer { return unitAnswer{ok: impl.BookOk(c.book)} },
		"Find": func(c unitCall) (a unitAnswer) {
			a.number, a.dim, a.ok = impl.Find(c.book, c.name)
			return a
		},
		"Measure": func(c unitCall) (a unitAnswer) {
			a.number, a.dim, a.code = impl.Measure(c.book, c.parts)
			return a
		},
		"AddBase": func(c unitCall) (a unitAnswer) {
			a.book, a.code = impl.AddBase(c.book, c.name)
			return a
		},
		"AddPrefix": func(c unitCall) (a unitAnswer) {
			a.book, a.code = impl.AddPrefix(c.book, c.name, c.num)
			return a
		},
		"AddUnit": func(c unitCall) (a unitAnswer) {
			a.book, a.code = impl.AddUnit(c.book, c.name, c.num, c.parts)
			return a
		},
		"Convert": func(c unitCall) (a unitAnswer) {
			a.number, a.ok = impl.Convert(c.book, c.parts, c.to)
			return a
		},
	}
}

// checkUnitMemory calls a function twice with all in rooms, and writes into these and into the first answer.
func checkUnitMemory(t *testing.T, name string, call func(c unitCall) unitAnswer, c unitCall) {
	t.Helper()
	var record bookRooms
	given := unitCall{record.roomyBook(c.book), record.roomyText(c.name), record.roomyNumber(c.num), record.roomyParts(c.parts), record.roomyParts(c.to)}
	kept := record.standing()
	first, second := call(given), call(given)
	if record.standing() != kept {
		t.Fatalf("%s writes into %s", name, clipped(c))
	}
	if meets(first.spans(), record.allSpans()) || meets(first.spans(), second.spans()) || meetsItself(first.spans()) {
		t.Errorf("%s of %s shares memory", name, clipped(c))
	}
	record.overwriteAll()
	want := call(c)
	if !sameUnitAnswer(first, want) {
		t.Errorf("%s of %s is kept: %s, wanted %s", name, clipped(c), clipped(first), clipped(want))
	}
	first.overwrite()
	if !sameUnitAnswer(second, want) || !sameUnitAnswer(call(c), want) {
		t.Errorf("%s of %s hangs on an earlier answer", name, clipped(c))
	}
}

func TestBooksAreNeitherKeptNorWrittenInto(t *testing.T) {
	books := []impl.Book{{}, plainBook(), bookOf("base m"), bookOf("prefix k 1000"), bookOf("unit dozen 12"), bookOf("base m", "prefix k 1000", "unit u 3/4 1/2"), sizedBook(6, 12, 24), sizedBook(5, 11, 23), sizedBook(7, 1, 1), sizedBook(1, 13, 1), sizedBook(1, 1, 25), bookOf("base m", "base m"), bookOf("prefix k 0"), bookOf("base m", "unit u 1")}
	named := []string{"m", "km", "kkm", "N", "kN", "u", "ku", "b0", "u3", "p2b1", "p1u3", "J", "abcdefghijkl", "", "1"}
	number := []impl.Rat{ratOfInts(3, 7), greatRats()[0], {}}
	parts := []string{"", "m", "N^-1 km", "ku u", "b0^1/2 u0^-12", "dozen", "ha^1/2 m", "km^1/2", "x", "m m m m m m m m m"}
	r := rand.New(rand.NewSource(84))
	for range 40 {
		b := chanceBook(r)
		books = append(books, b, spoiledBook(r, b))
	}
	for name, call := range unitCalls() {
		for i, b := range books {
			for j, text := range named {
				given := unitCall{b, text, number[j%4%3], partsOf(parts[j%len(parts)]), partsOf(parts[(i+j)%len(parts)])}
				if i >= len(books)-80 {
					given.name, given.parts = madeName(r, b), chancePartsOf(r, b)
					given.to = slices.Clone(given.parts)
				}
				checkUnitMemory(t, name, call, given)
			}
		}
	}
}

// Lists of the arguments may share memory: those of the answer don't.
func TestAnswersShareNoMemoryWhereArgumentsDo(t *testing.T) {
	one := impl.FromInt(1)
	number, dim := impl.Rat{Num: one, Den: one}, vecOf(1, 2)
	names := "mkuvwxyz"
	b := impl.Book{Bases: []string{names[:1]}, Prefixes: []impl.Prefix{{Name: names[1:2], Num: number}, {Name: names[:1], Num: number}}, Units: []impl.Unit{{Name: names[2:3], Num: number, Dim: dim}, {Name: names[3:4], Num: number, Dim: dim}}}
	parts := []impl.Part{partOf(names[2:3], 1, 1), partOf(names[2:3], 1, 1)}
	for name, call := range unitCalls() {
		for at := range len(names) {
			for end := at + 1; end <= len(names); end++ {
				answer := call(unitCall{b, names[at:end], number, parts, parts})
				given := append(spansOfBook(b), spanOf(one.Limbs), spanOf(dim.At), spanOf(parts), spanOfText(names))
				if meets(answer.spans(), given) || meetsItself(answer.spans()) {
					t.Errorf("%s of %q shares memory", name, names[at:end])
				}
			}
		}
	}
	if !impl.BookOk(b) || len(one.Limbs) != 1 || one.Limbs[0] != 1 || !sameVec(dim, vecOf(1, 2)) {
		t.Error("the book is written into")
	}
}
