package tests

import (
	"math"
	"math/rand"
	"slices"
	"strings"
	"testing"
)

// newDice is a source that throws the same each time.
func newDice(seed int64) *rand.Rand {
	return rand.New(rand.NewSource(seed))
}

// someText is a text of so many bytes, any of them.
func someText(dice *rand.Rand, size int) string {
	b := make([]byte, size)
	for i := range b {
		b[i] = byte(dice.Intn(256))
	}
	return string(b)
}

// turned is a text of which some bits of one byte are turned.
func turned(text string, at int, mask int) string {
	b := []byte(text)
	b[at] ^= byte(mask)
	return string(b)
}

// filled is a text with bytes 85 behind, up to whole sevens.
func filled(text string) string {
	return text + strings.Repeat("\x55", (7-len(text)%7)%7)
}

// sameTexts says whether two lists have the same texts; the nil list is the empty one.
func sameTexts(a []string, b []string) bool {
	if len(a) != len(b) {
		return false
	}
	for i := range a {
		if a[i] != b[i] {
			return false
		}
	}
	return true
}

// want fails the test if something does not hold.
func want(t *testing.T, holds bool, format string, values ...any) {
	t.Helper()
	if !holds {
		t.Fatalf(format, values...)
	}
}

// farNumbers are numbers far below 0 and far above every limit.
func farNumbers() []int {
	return []int{math.MinInt, math.MinInt + 1, -1 << 40, -1 << 32, -1 << 16, 1 << 20, 1 << 32, 1 << 40, math.MaxInt - 1, math.MaxInt}
}

// roomy is a list in memory of its own, with room behind, in which a mark stands.
func roomy[T any](list []T, mark T) []T {
	all := append([]T{}, list...)
	for range 5 {
		all = append(all, mark)
	}
	return all
}

// sharesNothing holds a call to leave the list that it is given as it is, the room behind included, and to answer with a list in memory of its own.
func sharesNothing[T comparable](t *testing.T, list []T, mark T, call func([]T) []T) {
	t.Helper()
	all := roomy(list, mark)
	was := slices.Clone(all)
	given := all[:len(list)]
	answer := call(given)
	want(t, slices.Equal(all, was), "a call changed %v into %v", was, all)
	said := slices.Clone(answer)
	room := answer[:cap(answer)]
	var other T
	for i := range room {
		room[i] = other
	}
	want(t, slices.Equal(all, was), "writing into the answer changed %v into %v", was, all)
	answer = call(given)
	want(t, slices.Equal(answer, said), "the second answer is %v, not %v", answer, said)
	for i := range all {
		all[i] = other
	}
	want(t, slices.Equal(answer, said), "writing into the argument changed %v into %v", said, answer)
}

// apart holds lists to share no memory, the room behind each included: each is filled with a mark of its own.
func apart[T comparable](t *testing.T, mark func(int) T, lists ...[]T) {
	t.Helper()
	for i, list := range lists {
		room := list[:cap(list)]
		for j := range room {
			room[j] = mark(i)
		}
	}
	for i, list := range lists {
		for _, x := range list[:cap(list)] {
			want(t, x == mark(i), "list %d has what was written into another one: %v", i, x)
		}
	}
}
