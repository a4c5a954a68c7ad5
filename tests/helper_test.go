package tests

import (
	"math/rand"
	"strings"
	"testing"
)

// newDice is a source that throws the same each time.
func newDice(seed int64) *rand.Rand {
	return rand.New(rand.NewSource(seed))
}

// someText is a text of so many bytes, any of them.
func someText(dice *rand.Rand, size int) string {
	b := make([]byte, size)
	for i := range b {
		b[i] = byte(dice.Intn(256))
	}
	return string(b)
}

// turned is a text of which some bits of one byte are turned.
func turned(text string, at int, mask int) string {
	b := []byte(text)
	b[at] ^= byte(mask)
	return string(b)
}

// filled is a text with bytes 85 behind, up to whole sevens.
func filled(text string) string {
	return text + strings.Repeat("\x55", (7-len(text)%7)%7)
}

// sameTexts says whether two lists have the same texts; the nil list is the empty one.
func sameTexts(a []string, b []string) bool {
	if len(a) != len(b) {
		return false
	}
	for i := range a {
		if a[i] != b[i] {
			return false
		}
	}
	return true
}

// want fails the test if something does not hold.
func want(t *testing.T, holds bool, format string, values ...any) {
	t.Helper()
	if !holds {
		t.Fatalf(format, values...)
	}
}
