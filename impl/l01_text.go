package impl

import (
	"iter"
	"strconv"
	"strings"
)

const (
	MaxText  = 4000
	MaxSmall = 1000000000
	MaxName  = 12
)

// decPlaces is the length of the longest text that ReadDec takes: a number
// of so many digits stays below MaxSmall, so the sum there can't overflow.
const decPlaces = 9

func DecText(n int) string {
	return strconv.Itoa(n)
}

func ReadDec(s string) int {
	if len(s) < 1 || len(s) > decPlaces || len(s) > 1 && s[0] == '0' {
		return -1
	}
	n := 0
	for _, sign := range s {
		if !isDigit(sign) {
			return -1
		}
		n = n*10 + int(sign-'0')
	}
	return n
}

func Lines(s string) []string {
	var list []string
	for part := range partsBetween(s, isNewline) {
		list = append(list, part)
	}
	// There is always a last part: of the empty text it is the empty one.
	last := len(list) - 1
	if list[last] == "" {
		list = list[:last]
	}
	return list
}

func Words(s string) []string {
	var list []string
	for part := range partsBetween(s, isGap) {
		if part != "" {
			list = append(list, part)
		}
	}
	return list
}

func NameOk(s string) bool {
	if len(s) < 1 || len(s) > MaxName {
		return false
	}
	for place, sign := range s {
		if isLetter(sign) {
			continue
		}
		if place == 0 || !isDigit(sign) && sign != '_' {
			return false
		}
	}
	return true
}

func Before(a string, b string) bool {
	return a < b
}

func Gcd(a int, b int) int {
	if !isSmall(a) || !isSmall(b) {
		return 0
	}
	return greatestDivisor(a, b)
}

func Lcm(a int, b int) int {
	// Gcd tells 0 also of numbers that are too large, so it refuses for both.
	g := Gcd(a, b)
	if g == 0 {
		return 0
	}
	return withoutSign(a) / g * withoutSign(b)
}

// partsBetween tells the parts of s between the signs that cut it, the empty
// ones too. All that cuts is of one byte below 128, so bytes that are no
// UTF-8 stay whole inside a part. Parts are clones: an answer made of them
// shares no memory with s.
func partsBetween(s string, cuts func(rune) bool) iter.Seq[string] {
	return func(yield func(string) bool) {
		start := 0
		for place, sign := range s {
			if !cuts(sign) {
				continue
			}
			if !yield(strings.Clone(s[start:place])) {
				return
			}
			start = place + 1
		}
		yield(strings.Clone(s[start:]))
	}
}

func isNewline(sign rune) bool {
	return sign == '\n'
}

func isGap(sign rune) bool {
	return sign == ' ' || sign == '\t'
}

func isDigit(sign rune) bool {
	return '0' <= sign && sign <= '9'
}

func isLetter(sign rune) bool {
	return 'A' <= sign && sign <= 'Z' || 'a' <= sign && sign <= 'z'
}

// greatestDivisor is Gcd of numbers of any size but the least int.
func greatestDivisor(a, b int) int {
	for b != 0 {
		a, b = b, a%b
	}
	return withoutSign(a)
}

// isSmall is asked ahead of withoutSign: the least int has no other sign.
func isSmall(n int) bool {
	return -MaxSmall <= n && n <= MaxSmall
}

func withoutSign(n int) int {
	if n < 0 {
		return -n
	}
	return n
}
