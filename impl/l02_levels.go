package impl

import (
	"slices"
	"sort"
	"strings"
)

// Limits of levels and of days.
const (
	MinLevel  = -2000
	MaxLevel  = 2000
	MaxDay    = 100000
	MaxGauges = 60
	MaxShared = 1000000000
)

const (
	maxReading    = 10000
	maxDifference = MaxLevel - MinLevel
	maxMetres     = 100000
	maxNumerator  = 1000000000000000
)

// Fraction is the number Num / Den.
type Fraction struct {
	Num int64
	Den int64
}

// levelParts are what the text of a level is made of.
type levelParts struct {
	sign        string
	metres      int64
	centimetres int64
}

// fillable is what takes more cubic metres the higher it is filled: land and storage take
// water, a dike takes clay.
type fillable interface {
	// volumeAt returns what it takes up to a level; this never falls while the level rises.
	volumeAt(level int64) int64
}

// ValidLevel reports whether a number is a level.
func ValidLevel(n int64) bool { return within(n, MinLevel, MaxLevel) }

// ValidDay reports whether a number is a day.
func ValidDay(n int64) bool { return within(n, 0, MaxDay) }

// MeanLevel returns the mean of levels.
func MeanLevel(list []int64) (Fraction, int64) {
	if !areGauges(list) {
		return Fraction{}, ErrRange
	}
	if len(list) == 0 {
		return Fraction{}, ErrNotFound
	}
	return lowestTerms(sumOf(list...), int64(len(list))), OK
}

// MedianLevel returns the middle of levels.
func MedianLevel(list []int64) (int64, int64) {
	if !areGauges(list) {
		return 0, ErrRange
	}
	if len(list) == 0 {
		return 0, ErrNotFound
	}
	return middleOf(list), OK
}

// LevelOfGauge returns the level of a gauge at a reading.
func LevelOfGauge(zero, reading int64) (int64, int64) {
	if !ValidLevel(zero) || !within(reading, 0, maxReading) {
		return 0, ErrRange
	}
	if !ValidLevel(zero + reading) {
		return 0, ErrFull
	}
	return zero + reading, OK
}

// WrongGauges returns the gauges that differ much from the middle of all.
func WrongGauges(list []int64, most int64) ([]int64, int64) {
	if !areGauges(list) || !within(most, 0, maxDifference) {
		return nil, ErrRange
	}
	if len(list) == 0 {
		return nil, OK
	}
	middle := middleOf(list)
	return indicesWhere(len(list), func(k int) bool { return !within(list[k], middle-most, middle+most) }), OK
}

// SlopeBetween returns the slope of the water between two gauges.
func SlopeBetween(a, b, metres int64) (Fraction, int64) {
	if !areLevels(a, b) || !within(metres, 1, maxMetres) {
		return Fraction{}, ErrRange
	}
	return lowestTerms(b-a, metres), OK
}

// RisesFast returns the readings that are much higher than the one before.
func RisesFast(list []int64, by int64) ([]int64, int64) {
	if !areGauges(list) || !within(by, 1, maxDifference) {
		return nil, ErrRange
	}
	return indicesWhere(len(list), func(k int) bool { return k > 0 && list[k]-list[k-1] >= by }), OK
}

// ShareOut divides a number by weights.
func ShareOut(total int64, weights []int64) ([]int64, int64) {
	sum, ok := sumOfWeights(weights)
	if !ok || !within(total, 0, MaxShared) {
		return nil, ErrRange
	}
	if sum == 0 {
		return nil, ErrState
	}
	shares := make([]int64, len(weights))
	left := total
	for i, weight := range weights {
		shares[i] = total * weight / sum
		left -= shares[i]
	}
	byRemainder := fallingOrder(len(weights), func(i int) int64 { return total * weights[i] % sum })
	for _, i := range byRemainder[:left] {
		shares[i]++
	}
	return shares, OK
}

// RoundFraction returns the nearest integer of a fraction.
func RoundFraction(f Fraction) (int64, int64) {
	if !within(f.Den, 1, MaxShared) || !within(f.Num, -maxNumerator, maxNumerator) {
		return 0, ErrInvalid
	}
	return floorDivide(2*f.Num+f.Den, 2*f.Den), OK
}

// LevelText returns the text form of a level.
func LevelText(n int64) string {
	if !ValidLevel(n) {
		return ""
	}
	parts := partsOfLevel(n)
	return parts.sign + Decimal(parts.metres) + "." + twoDigits(parts.centimetres) + "m"
}

// ReadLevel returns the level with a text form.
func ReadLevel(s string) (int64, bool) {
	parts, ok := partsOfText(s)
	if !ok {
		return 0, false
	}
	n := parts.level()
	// A level has one text only: its own parts differ from those of -0.00m, of
	// a text with another sign, and of metres so many that n has wrapped around.
	if !ValidLevel(n) || partsOfLevel(n) != parts {
		return 0, false
	}
	return n, true
}

// areGauges reports whether a list has levels only, and not too many.
func areGauges(list []int64) bool { return areLevels(list...) && len(list) <= MaxGauges }

func areLevels(levels ...int64) bool { return areWithin(levels, MinLevel, MaxLevel) }

// leastLevel returns the least level from low to high up to which f takes a volume, or more;
// high + 1 if there is none.
func leastLevel(f fillable, low, high, volume int64) int64 {
	return low + int64(sort.Search(int(high-low+1), func(n int) bool { return f.volumeAt(low+int64(n)) >= volume }))
}

func middleOf(list []int64) int64 {
	sorted := slices.Clone(list)
	slices.Sort(sorted)
	return sorted[(len(sorted)-1)/2]
}

// sumOfWeights returns the sum of weights, and whether one may share out by them.
func sumOfWeights(weights []int64) (int64, bool) {
	if len(weights) > MaxGauges {
		return 0, false
	}
	sum := int64(0)
	for _, weight := range weights {
		if !within(weight, 0, MaxShared) {
			return 0, false
		}
		sum += weight
	}
	return sum, sum <= MaxShared
}

// lowestTerms returns num / den; den must be positive.
func lowestTerms(num, den int64) Fraction {
	divisor := greatestDivisor(max(num, -num), den)
	return Fraction{Num: num / divisor, Den: den / divisor}
}

func greatestDivisor(a, b int64) int64 {
	for b != 0 {
		a, b = b, a%b
	}
	return a
}

// floorDivide rounds down where Go's division rounds towards 0; den must be positive.
func floorDivide(num, den int64) int64 {
	quotient := num / den
	if num%den < 0 {
		quotient--
	}
	return quotient
}

func partsOfLevel(n int64) levelParts {
	sign := "+"
	if n < 0 {
		sign = "-"
	}
	n = max(n, -n)
	return levelParts{sign: sign, metres: n / 100, centimetres: n % 100}
}

// partsOfText returns the parts of a text that has the form of a level's text;
// whether they are those of a level remains to be checked.
func partsOfText(s string) (levelParts, bool) {
	body, ended := strings.CutSuffix(s, "m")
	signed, digits, cut := strings.Cut(body, ".")
	if !ended || !cut || signed == "" {
		return levelParts{}, false
	}
	metres, isNumber := ReadDecimal(signed[1:])
	centimetres, areDigits := readTwoDigits(digits)
	if !isNumber || !areDigits {
		return levelParts{}, false
	}
	return levelParts{sign: signed[:1], metres: metres, centimetres: centimetres}, true
}

func (p levelParts) level() int64 {
	n := 100*p.metres + p.centimetres
	if p.sign == "-" {
		return -n
	}
	return n
}

// twoDigits returns a number from 0 to 99 with a leading zero where needed.
func twoDigits(n int64) string { return Decimal(n/10) + Decimal(n%10) }

func readTwoDigits(s string) (int64, bool) {
	if len(s) != 2 || !isDigit(rune(s[0])) || !isDigit(rune(s[1])) {
		return 0, false
	}
	return 10*int64(s[0]-'0') + int64(s[1]-'0'), true
}
