package tests

import (
	"math"
	"slices"
	"strconv"
	"strings"
	"testing"

	"loop.example/g01032/impl"
)

func TestCodeNames(t *testing.T) {
	codes := []int64{
		impl.OK, impl.ErrInvalid, impl.ErrRange, impl.ErrNotFound, impl.ErrExists, impl.ErrFull,
		impl.ErrState, impl.ErrSyntax, impl.ErrFormat, impl.ErrClash, impl.ErrFlood,
	}
	names := []string{"ok", "invalid", "range", "not-found", "exists", "full", "state", "syntax", "format", "clash", "flood"}
	for i, code := range codes {
		if code != int64(i) {
			t.Errorf("the code of %s is %d", names[i], code)
		}
		if name := impl.CodeName(code); name != names[i] {
			t.Errorf("CodeName(%d) = %q, not %q", code, name, names[i])
		}
	}
	for _, code := range append([]int64{-1, -10, 11, 12, 256, 1 << 32}, extremes...) {
		if name := impl.CodeName(code); name != "" && (code < 0 || code > 10) {
			t.Errorf("CodeName(%d) = %q", code, name)
		}
	}
}

func TestNames(t *testing.T) {
	for _, s := range []string{"mill-3", "a", "z", "a0", "z9", "a-", "a--b", "abcdefghijkl", "a-----------", "a12345678901"} {
		if !impl.IsName(s) {
			t.Errorf("%q is told to be no name", s)
		}
	}
	no := []string{
		"", "3a", "0", "-a", "-", "Mill", "mIll", "A", "abcdefghijklm", "a b", " a", "a ", "a_b", "a.b", "a\n", "a\x00",
		"aé", "é", "ab\xff", "\xffab", "a\u0660", "a１", "a/", "a:", "`", "{", "a`", "a{", "a\u2010b",
	}
	for _, s := range append(no, oddTexts...) {
		if impl.IsName(s) {
			t.Errorf("%q is told to be a name", s)
		}
	}
}

// TestNamesByByte holds each byte, as the first one and as a later one, against the definition.
func TestNamesByByte(t *testing.T) {
	letters, others := "abcdefghijklmnopqrstuvwxyz", "0123456789-"
	for b := range 256 {
		c := string([]byte{byte(b)})
		if got, want := impl.IsName(c), strings.Contains(letters, c); got != want {
			t.Errorf("IsName(%q) = %v", c, got)
		}
		if got, want := impl.IsName("a"+c), strings.Contains(letters+others, c); got != want {
			t.Errorf("IsName(%q) = %v", "a"+c, got)
		}
	}
}

func TestDecimal(t *testing.T) {
	cases := map[int64]string{
		0: "0", 7: "7", -7: "-7", 10: "10", -10: "-10", 1000000: "1000000",
		math.MaxInt64: "9223372036854775807", math.MinInt64: "-9223372036854775808",
	}
	for n, want := range cases {
		if s := impl.Decimal(n); s != want {
			t.Errorf("Decimal(%d) = %q", n, s)
		}
	}
}

// TestDecimalsAreReadBack is promise 2 for numbers.
func TestDecimalsAreReadBack(t *testing.T) {
	numbers := []int64{999999999999999999, -999999999999999999, 100000000000000000, -100000000000000000}
	for n := int64(1); n < 1000000000000000000; n *= 10 {
		numbers = append(numbers, n, -n, n-1, 1-n, n+1, -n-1, 9*n, -9*n)
	}
	for n := int64(-1100); n <= 1100; n++ {
		numbers = append(numbers, n)
	}
	for _, n := range numbers {
		if n > 999999999999999999 || n < -999999999999999999 {
			continue
		}
		if got, ok := impl.ReadDecimal(impl.Decimal(n)); got != n || !ok {
			t.Errorf("%d is read back as %d, %v", n, got, ok)
		}
	}
}

func TestNoDecimals(t *testing.T) {
	no := []string{
		"-0", "+0", "+1", "00", "01", "-01", "007", "--1", "-+1", "1-", "1 ", " 1", "1\n", "1_000", "0x1", "0b1", "1e3", "1.0", "a",
		"1000000000000000000", "-1000000000000000000", "1234567890123456789", "9223372036854775807", "-9223372036854775808",
		"9223372036854775808", "000000000000000001", "- 1", "１", "1\xff", "1\x00",
	}
	for _, s := range append(no, oddTexts...) {
		if n, ok := impl.ReadDecimal(s); n != 0 || ok {
			t.Errorf("ReadDecimal(%q) = %d, %v", s, n, ok)
		}
	}
	for _, n := range extremes {
		if _, ok := impl.ReadDecimal(strconv.FormatInt(n, 10)); ok != (n >= -1 && n <= 1) {
			t.Errorf("%d is read: %v", n, ok)
		}
	}
}

// TestDecimalsByText holds short texts against the definition: a text is read just if it is the
// Decimal of a number.
func TestDecimalsByText(t *testing.T) {
	decimals := map[string]int64{}
	for n := int64(-9999); n <= 99999; n++ {
		decimals[strconv.FormatInt(n, 10)] = n
	}
	for _, text := range textsOver("-+ 0179_", 5) {
		want, is := decimals[text]
		if n, ok := impl.ReadDecimal(text); n != want || ok != is {
			t.Errorf("ReadDecimal(%q) = %d, %v", text, n, ok)
		}
	}
}

func TestSplitWords(t *testing.T) {
	cases := []struct {
		text  string
		words []string
	}{
		{"", nil},
		{" ", nil},
		{"   ", nil},
		{"a", []string{"a"}},
		{"  a bc ", []string{"a", "bc"}},
		{"a  b   c", []string{"a", "b", "c"}},
		{"b a b", []string{"b", "a", "b"}},
		{"a\tb\nc d\r", []string{"a\tb\nc", "d\r"}},
		{"a\u00a0b \u2003 c", []string{"a\u00a0b", "\u2003", "c"}},
		{"\xff \xc3 \x00é", []string{"\xff", "\xc3", "\x00é"}},
	}
	for _, c := range cases {
		if words := impl.SplitWords(c.text); !slices.Equal(words, c.words) {
			t.Errorf("SplitWords(%q) = %q, not %q", c.text, words, c.words)
		}
	}
}

// TestWordsHaveNoBlanks is promise 2 for words: they have no blanks, none is empty, and they are
// all that the text has beside its blanks.
func TestWordsHaveNoBlanks(t *testing.T) {
	texts := append([]string{"  a bc ", " x", "x ", "raise 400", "note 1 word 2  3"}, oddTexts...)
	for _, text := range append(texts, textsOver("a \t", 6)...) {
		words := impl.SplitWords(text)
		for _, word := range words {
			if word == "" || strings.Contains(word, " ") {
				t.Errorf("%q has the word %q", text, word)
			}
		}
		want := slices.DeleteFunc(strings.Split(text, " "), func(s string) bool { return s == "" })
		if !slices.Equal(words, want) {
			t.Errorf("SplitWords(%q) = %q", text, words)
		}
	}
}

// TestBasicsArePure is promise 1 for chapter 1.
func TestBasicsArePure(t *testing.T) {
	for _, text := range append([]string{"mill-3", "-42", "+1", "a b  c"}, oddTexts...) {
		if impl.IsName(text) != impl.IsName(strings.Clone(text)) {
			t.Errorf("IsName of %q differs", text)
		}
		n, ok := impl.ReadDecimal(text)
		if m, again := impl.ReadDecimal(strings.Clone(text)); m != n || again != ok {
			t.Errorf("ReadDecimal of %q differs", text)
		}
		before, words := strings.Clone(text), impl.SplitWords(text)
		want := slices.Clone(words)
		for i := range words {
			words[i] = "changed"
		}
		if text != before || !slices.Equal(impl.SplitWords(text), want) {
			t.Errorf("SplitWords of %q differs after its result is changed", text)
		}
	}
	for _, n := range extremes {
		if impl.CodeName(n) != impl.CodeName(n) || impl.Decimal(n) != impl.Decimal(n) {
			t.Errorf("CodeName or Decimal of %d differs", n)
		}
	}
}
