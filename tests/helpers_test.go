package tests

import (
	"maps"
	"math"
	"slices"
	"strings"
	"testing"
)

// spareMark fills the unused capacity of an argument, where a write would show.
const spareMark = 123456789

// extremes are numbers at and around the ends of int64, and near 0.
var extremes = []int64{
	math.MinInt64, math.MinInt64 + 1, math.MinInt64 / 2, -1, 0, 1, math.MaxInt64 / 2, math.MaxInt64 - 1, math.MaxInt64,
}

// oddTexts are texts that no reader should stumble over.
var oddTexts = []string{
	"", " ", "\x00", "\xff", "\xff\xfe m", "\xc3", "é", "日本", "\u0660", "１", "\u00a0", "-", "+", ".", ".m", "+.m", "-.00m",
	"+m.00", strings.Repeat("9", 5000), "-" + strings.Repeat("0", 5000), strings.Repeat(" ", 5000),
}

// oddLists are nil, empty, short, full and far too long lists, with numbers of every size.
func oddLists() [][]int64 {
	lists := [][]int64{nil, {}, filled(60, 0), filled(61, 0), filled(60, math.MaxInt64), filled(61, math.MinInt64), filled(10000, 1)}
	for _, n := range extremes {
		lists = append(lists, []int64{n}, []int64{n, n}, []int64{5, n, -5}, []int64{math.MaxInt64, n, math.MinInt64})
	}
	return append(lists, slices.Clone(extremes))
}

// filled returns a list with many times the number n.
func filled(many int, n int64) []int64 { return slices.Repeat([]int64{n}, many) }

// textsOver returns all texts of at most length bytes of an alphabet.
func textsOver(alphabet string, length int) []string {
	texts := []string{""}
	for first := 0; length > 0; length-- {
		longest := texts[first:]
		first = len(texts)
		for _, text := range longest {
			for i := range alphabet {
				texts = append(texts, text+alphabet[i:i+1])
			}
		}
	}
	return texts
}

// checkPure calls f twice with equal lists, and fails if the results differ, or if the list, or
// its unused capacity, has been changed.
func checkPure[R any](t *testing.T, list []int64, f func([]int64) R, same func(a, b R) bool) R {
	t.Helper()
	backing := append(slices.Clone(list), filled(8, spareMark)...)
	before := slices.Clone(backing)
	first := f(backing[:len(list)])
	if !slices.Equal(backing, before) {
		t.Fatalf("%v has been changed to %v", before, backing)
	}
	if again := f(slices.Clone(list)); !same(first, again) {
		t.Fatalf("%v: %v is followed by %v", list, first, again)
	}
	return first
}

// checkNewList is checkPure for a function with a list as its result, which must share no memory
// with the argument, nor with another result.
func checkNewList(t *testing.T, list []int64, f func([]int64) ([]int64, int64)) ([]int64, int64) {
	t.Helper()
	var code int64
	result := checkPure(t, list, func(l []int64) []int64 { r, c := f(l); code = c; return r }, slices.Equal[[]int64])
	if code != 0 && len(result) != 0 {
		t.Fatalf("%v: code %d with the result %v", list, code, result)
	}
	argument := slices.Clone(list)
	other, otherCode := f(argument)
	if otherCode != code {
		t.Fatalf("%v: code %d is followed by %d", list, code, otherCode)
	}
	overwrite(other)
	if !slices.Equal(argument, list) {
		t.Fatalf("%v: the result shares memory with the argument", list)
	}
	third, _ := f(argument)
	overwrite(argument)
	if !slices.Equal(third, result) {
		t.Fatalf("%v: the result %v is followed by %v", list, result, third)
	}
	return result, code
}

// changesOf returns a text with each of its bytes removed, doubled, replaced by every byte, and
// preceded by every byte.
func changesOf(text string) []string {
	var changes []string
	for i := range text {
		changes = append(changes, text[:i]+text[i+1:])
		for b := range 256 {
			one := string([]byte{byte(b)})
			changes = append(changes, text[:i]+one+text[i+1:], text[:i]+one+text[i:])
		}
	}
	return changes
}

// checkReader reads all changes of some texts: what is read must have just this text, as write tells
// (it writes nothing else than what is valid), and what is not read must be zero.
func checkReader[V any](t *testing.T, texts []string, read func(string) (V, bool), write func(V) string, isZero func(V) bool) {
	t.Helper()
	for _, text := range texts {
		if v, ok := read(text); !ok || write(v) != text {
			t.Fatalf("%q is read as %v, %v", text, v, ok)
		}
		for _, change := range changesOf(text) {
			if v, ok := read(change); ok && write(v) != change || !ok && !isZero(v) {
				t.Fatalf("%q is read as %v, %v", change, v, ok)
			}
		}
	}
}

// checkReadBack has all good values written as their texts tell, and read back; bad ones are not written, and what would be their
// texts is not read.
func checkReadBack[V comparable](t *testing.T, good, bad []V, textOf func(V) string, write func(V) string, read func(string) (V, bool)) {
	t.Helper()
	for _, v := range good {
		if got := write(v); got != textOf(v) {
			t.Errorf("%v is written as %q", v, got)
		}
		if got, ok := read(textOf(v)); got != v || !ok {
			t.Errorf("%q is read as %v, %v", textOf(v), got, ok)
		}
	}
	var zero V
	for _, v := range bad {
		if got := write(v); got != "" {
			t.Errorf("%v is written as %q", v, got)
		}
		if got, ok := read(textOf(v)); got != zero || ok {
			t.Errorf("%q is read as %v, %v", textOf(v), got, ok)
		}
	}
}

// checkNotRead reads texts, and all odd ones, of which none may be read.
func checkNotRead[V any](t *testing.T, texts []string, read func(string) (V, bool), isZero func(V) bool) {
	t.Helper()
	for _, text := range slices.Concat(texts, oddTexts) {
		if v, ok := read(text); ok || !isZero(v) {
			t.Errorf("%q is read as %v, %v", text, v, ok)
		}
	}
}

// checkValidity has all good values told to be valid, and no bad one.
func checkValidity[V any](t *testing.T, isValid func(V) bool, good, bad []V) {
	t.Helper()
	for _, v := range good {
		if !isValid(v) {
			t.Errorf("%v is told not to be valid", v)
		}
	}
	for _, v := range bad {
		if isValid(v) {
			t.Errorf("%v is told to be valid", v)
		}
	}
}

// checkDiffer compares all values with copies of each other: each must be the same as itself only.
func checkDiffer[V any](t *testing.T, values []V, copyOf func(V) V, same func(a, b V) bool) {
	t.Helper()
	for i, a := range values {
		for k, b := range values {
			if got := same(a, copyOf(b)); got != (i == k) {
				t.Errorf("%v and %v are told to be the same: %v", a, b, got)
			}
		}
	}
}

// overwrite changes a list with its whole capacity.
func overwrite(list []int64) { overwriteWith(list, -spareMark) }

func overwriteWith[E any](list []E, mark E) {
	list = list[:cap(list)]
	for i := range list {
		list[i] = mark
	}
}

// guarded returns a copy of a list with marks in its unused capacity, and a function that fails if
// the copy or one of the marks has been changed.
func guarded[E comparable](t *testing.T, list []E, mark E) ([]E, func()) {
	t.Helper()
	backing := append(slices.Clone(list), slices.Repeat([]E{mark}, 8)...)
	before := slices.Clone(backing)
	return backing[:len(list)], func() {
		t.Helper()
		if !slices.Equal(backing, before) {
			t.Fatalf("%v has been changed to %v", before, backing)
		}
	}
}

// checkFresh overwrites a result of a call: no argument, which unchanged looks at, and no other
// result may change with it.
func checkFresh[E comparable](t *testing.T, call func() []E, mark E, unchanged func()) {
	t.Helper()
	first, second := call(), call()
	want := slices.Clone(first)
	overwriteWith(first, mark)
	unchanged()
	if third := call(); !slices.Equal(second, want) || !slices.Equal(third, want) {
		t.Fatalf("%v is followed by %v and %v", want, second, third)
	}
}

// checkZero fails if a result, written with its code at the end, has a code other than OK and is
// anything but the zero value, as which zero is written.
func checkZero(t *testing.T, name, result, zero string) {
	t.Helper()
	if code := codeIn(result); code != "0" && result != zero+" "+code {
		t.Fatalf("%s: %s", name, result)
	}
}

// codeIn is the code of a result that is written with it at the end.
func codeIn(result string) string { return result[strings.LastIndexByte(result, ' ')+1:] }

// checkErrors is checkZero for a call with arguments of which is known whether they are valid, and whether they are in range: it has
// ErrInvalid come just for what is not valid, before all other errors, and ErrRange just for what is valid and not in range.
func checkErrors(t *testing.T, name string, arguments any, result, zero string, isValid, isInRange bool) {
	t.Helper()
	checkZero(t, name, result, zero)
	code := codeIn(result)
	if (code == "1") != !isValid || (code == "2") != (isValid && !isInRange) {
		t.Fatalf("%s with %v: %s", name, arguments, result)
	}
}

// together returns a function that makes all checks.
func together(t *testing.T, checks ...func()) func() {
	return func() {
		t.Helper()
		for _, check := range checks {
			check()
		}
	}
}

// arguments are an argument of each kind for the functions of a chapter.
type arguments[A any] interface {
	// calls are all of these functions, with their results as texts.
	calls() map[string]string
	// withGuards returns the arguments with marks in all unused capacity, and a function that fails if anything has been changed.
	withGuards(t *testing.T) (A, func())
	// withCopies returns the arguments with copies of their lists, which have no unused capacity.
	withCopies() A
}

// checkCallsPure calls all functions twice with equal arguments, and fails if the results differ, or if an argument has been changed.
func checkCallsPure[A arguments[A]](t *testing.T, a A) {
	t.Helper()
	with, unchanged := a.withGuards(t)
	first := with.calls()
	unchanged()
	if again := a.withCopies().calls(); !maps.Equal(first, again) {
		t.Fatalf("%v: %v is followed by %v", a, first, again)
	}
}

// checkOneList is checkCallsPure for arguments of which several have the same list as their memory.
func checkOneList[A arguments[A]](t *testing.T, a A, list []int64) {
	t.Helper()
	before := slices.Clone(list)
	first := a.calls()
	if !slices.Equal(list, before) {
		t.Fatalf("%v has been changed to %v", before, list)
	}
	if again := a.withCopies().calls(); !maps.Equal(first, again) {
		t.Fatalf("%v: %v is followed by %v", a, first, again)
	}
}
