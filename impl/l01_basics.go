package impl

import (
	"cmp"
	"iter"
	"slices"
	"strconv"
	"strings"
)

// Codes and limits.
const (
	OK          = 0
	ErrInvalid  = 1
	ErrRange    = 2
	ErrNotFound = 3
	ErrExists   = 4
	ErrFull     = 5
	ErrState    = 6
	ErrSyntax   = 7
	ErrFormat   = 8
	ErrClash    = 9
	ErrFlood    = 10

	MaxName = 12
)

const maxDigits = 18

// codeNames holds the name of each code at the index of its value.
var codeNames = [...]string{
	"ok", "invalid", "range", "not-found", "exists", "full",
	"state", "syntax", "format", "clash", "flood",
}

// CodeName returns the name of a code.
func CodeName(code int64) string {
	if !within(code, 0, int64(len(codeNames))-1) {
		return ""
	}
	return codeNames[code]
}

// IsName reports whether s is a name.
func IsName(s string) bool {
	if !within(int64(len(s)), 1, MaxName) {
		return false
	}
	for i, r := range s {
		if !isSmallLetter(r) && (i == 0 || !isDigit(r) && r != '-') {
			return false
		}
	}
	return true
}

// Decimal returns the decimal form of a number.
func Decimal(n int64) string { return strconv.FormatInt(n, 10) }

// ReadDecimal returns the number with a decimal form.
func ReadDecimal(s string) (int64, bool) {
	if len(strings.TrimPrefix(s, "-")) > maxDigits {
		return 0, false
	}
	n, err := strconv.ParseInt(s, 10, 64)
	// ParseInt also takes +1, -0 and 01, which are the Decimal of no number.
	if err != nil || Decimal(n) != s {
		return 0, false
	}
	return n, true
}

// SplitWords returns the parts of a text without blanks.
func SplitWords(s string) []string {
	return strings.FieldsFunc(s, func(r rune) bool { return r == ' ' })
}

// readNumber returns the number with a decimal form, and 0 if there is none. That is enough
// for a reader that holds the text of what it has read against the one it was given.
func readNumber(s string) int64 {
	n, _ := ReadDecimal(s)
	return n
}

// readPair returns the numbers before and behind a mark, as readNumber does.
func readPair(s, mark string) (int64, int64) {
	before, behind, _ := strings.Cut(s, mark)
	return readNumber(before), readNumber(behind)
}

// joinWords returns the text with a word for each element of a list, separated by single blanks.
func joinWords[E any](list []E, word func(E) string) string {
	words := make([]string, len(list))
	for k, element := range list {
		words[k] = word(element)
	}
	return strings.Join(words, " ")
}

// readWords returns the element that each word of a text is read as.
func readWords[E any](s string, read func(word string) E) []E {
	var list []E
	for _, word := range SplitWords(s) {
		list = append(list, read(word))
	}
	return list
}

// readList returns the list with a text that has a word for each element, and whether there is one. A list
// has one text only, none if it is not valid, and this differs from s wherever that is not read as it stands.
func readList[E any](s string, read func(word string) E, textOf func(list []E) string) ([]E, bool) {
	list := readWords(s, read)
	if s == "" || textOf(list) != s {
		return nil, false
	}
	return list, true
}

// codeFor returns the first error of an argument, and of what is told with it.
func codeFor(isValid, inRange bool) int64 {
	if !isValid {
		return ErrInvalid
	}
	if !inRange {
		return ErrRange
	}
	return OK
}

func within(n, low, high int64) bool { return low <= n && n <= high }

func sumOf[N int | int64](numbers ...N) N {
	var sum N
	for _, n := range numbers {
		sum += n
	}
	return sum
}

// allAre reports whether all elements of a list are something.
func allAre[E any](list []E, is func(element E) bool) bool {
	return !slices.ContainsFunc(list, func(element E) bool { return !is(element) })
}

// areWithin reports whether all numbers of a list are from low to high.
func areWithin(list []int64, low, high int64) bool {
	return allAre(list, func(n int64) bool { return within(n, low, high) })
}

// areIncreasing reports whether a list is strictly increasing, from low at least to high at most.
func areIncreasing(list []int64, low, high int64) bool {
	for i, n := range list {
		if !within(n, low, high) || i > 0 && list[i-1] >= n {
			return false
		}
	}
	return true
}

// indicesWhere returns the indices from 0 to many - 1 that have something, in ascending order.
func indicesWhere(many int, has func(k int) bool) []int64 {
	var indices []int64
	for k := range many {
		if has(k) {
			indices = append(indices, int64(k))
		}
	}
	return indices
}

// firstLeast returns the index of the first one of the least numbers of a list, which must not be empty.
func firstLeast(list []int64) int64 { return int64(slices.Index(list, slices.Min(list))) }

// fallingOrder returns the indices from 0 to many - 1 by falling sizes, those with equal ones by their order.
func fallingOrder(many int, size func(k int) int64) []int {
	order := make([]int, many)
	for k := range order {
		order[k] = k
	}
	slices.SortStableFunc(order, func(a, b int) int { return cmp.Compare(size(b), size(a)) })
	return order
}

// zeroSpells goes through the longest stretches of numbers that are 0, in order, with the index of the first
// one and how many they are.
func zeroSpells(list []int64) iter.Seq2[int64, int64] {
	return func(yield func(first, many int64) bool) {
		many := int64(0)
		for k, n := range list {
			if n != 0 {
				many = 0
				continue
			}
			many++
			isLast := k == len(list)-1 || list[k+1] != 0
			if isLast && !yield(int64(k)+1-many, many) {
				return
			}
		}
	}
}

// longestZeroSpell returns how many numbers the longest one of the zeroSpells has; 0 if there is none.
func longestZeroSpell(list []int64) int64 {
	longest := int64(0)
	for _, many := range zeroSpells(list) {
		longest = max(longest, many)
	}
	return longest
}

func isSmallLetter(r rune) bool { return 'a' <= r && r <= 'z' }

func isDigit(r rune) bool { return '0' <= r && r <= '9' }
