package tests

import (
	"math/rand"
	"slices"
	"strings"
	"testing"

	"loop.example/skyway/impl"
)

// partOf is a part with the first byte that a way and its F make.
func partOf(via int, f int, text string) string {
	return string([]byte{byte(f*64 + via)}) + text
}

// plainSegCut is a text in parts, written as the document says it.
func plainSegCut(text string, via int) []string {
	var list []string
	for n := 0; len(text) > 0; n++ {
		f := 0
		if n == 0 {
			f++
		}
		size := 20
		if len(text) <= 20 {
			f += 2
			size = len(text)
		}
		list = append(list, partOf(via, f, text[:size]))
		text = text[size:]
	}
	return list
}

// plainSegHear hears a part as the document says it.
func plainSegHear(j impl.Join, part string, via int) (impl.Join, string) {
	if !j.Open && j.Text != "" || len(j.Text) > 106 {
		return impl.Join{}, ""
	}
	if len(part) < 2 || len(part) > 21 || int(part[0])%64 != via {
		return j, ""
	}
	f := int(part[0]) / 64
	if f == 1 || f == 3 {
		j = impl.Join{Open: true}
	}
	if !j.Open || len(j.Text)+len(part)-1 > 106 {
		return impl.Join{}, ""
	}
	j.Text += part[1:]
	if f == 2 || f == 3 {
		return impl.Join{}, j.Text
	}
	return j, ""
}

// okJoins are joins that are ok.
func okJoins() []impl.Join {
	list := []impl.Join{{}, {Open: true}}
	for _, size := range []int{1, 19, 20, 21, 66, 85, 86, 87, 105, 106} {
		list = append(list, impl.Join{Open: true, Text: strings.Repeat("j", size)})
	}
	return list
}

// badJoins are joins that are not ok.
func badJoins() []impl.Join {
	return []impl.Join{{Text: "j"}, {Text: strings.Repeat("j", 106)}, {Text: strings.Repeat("j", 107)}, {Open: true, Text: strings.Repeat("j", 107)}, {Open: true, Text: strings.Repeat("j", 9999)}}
}

// hearAll hears parts one behind the other, and tells what the last one told; all others must tell nothing.
func hearAll(t *testing.T, j impl.Join, parts []string, via int) (impl.Join, string) {
	t.Helper()
	told := ""
	for _, part := range parts {
		want(t, told == "", "%q was told ahead of the last part", told)
		j, told = impl.SegHear(j, part, via)
		want(t, impl.JoinOk(j), "%v is not ok", j)
	}
	return j, told
}

func TestP28TextsInParts(t *testing.T) {
	dice := newDice(71)
	for size := 1; size <= 106; size++ {
		for _, via := range []int{0, 1, 3, 62, 63} {
			text := someText(dice, size)
			parts := impl.SegCut(text, via)
			want(t, sameTexts(parts, plainSegCut(text, via)), "SegCut(%q, %d) is %q", text, via, parts)
			want(t, len(parts) == (size+19)/20, "%d bytes are in %d parts", size, len(parts))
		}
	}
	want(t, sameTexts(impl.SegCut("hello", 3), []string{"\xc3hello"}), "SegCut is %q", impl.SegCut("hello", 3))
	want(t, sameTexts(impl.SegCut(strings.Repeat("d", 20), 63), []string{"\xff" + strings.Repeat("d", 20)}), "20 bytes are not one part")
	want(t, sameTexts(impl.SegCut(strings.Repeat("d", 21), 0), []string{"\x40" + strings.Repeat("d", 20), "\x80d"}), "21 bytes are not two parts")
	want(t, sameTexts(impl.SegCut(strings.Repeat("d", 41), 1), []string{"\x41" + strings.Repeat("d", 20), "\x01" + strings.Repeat("d", 20), "\x81d"}), "41 bytes are not three parts")
}

func TestP28NoPartsOfWhatIsNotOk(t *testing.T) {
	for _, text := range []string{"", strings.Repeat("d", 107), strings.Repeat("d", 5000)} {
		want(t, len(impl.SegCut(text, 3)) == 0, "SegCut of %d bytes is %q", len(text), impl.SegCut(text, 3))
	}
	for _, via := range append(farNumbers(), -1, -64, 64, 65, 128, 256) {
		want(t, len(impl.SegCut("hello", via)) == 0, "SegCut by %d is %q", via, impl.SegCut("hello", via))
	}
}

func TestP28PutTogetherAsItWas(t *testing.T) {
	dice := newDice(72)
	for size := 1; size <= 106; size++ {
		for _, ahead := range okJoins() {
			via := dice.Intn(64)
			text := someText(dice, size)
			j, told := hearAll(t, ahead, impl.SegCut(text, via), via)
			want(t, told == text && j == impl.Join{}, "behind %v: %q is put together as %q, %v", ahead, text, told, j)
		}
	}
}

func TestP28WhateverPartsCameAhead(t *testing.T) {
	dice := newDice(73)
	for range 3000 {
		via := dice.Intn(64)
		j := impl.Join{}
		for range dice.Intn(12) {
			j, _ = impl.SegHear(j, somePart(dice, via), via)
		}
		text := someText(dice, 1+dice.Intn(106))
		last, told := hearAll(t, j, impl.SegCut(text, via), via)
		want(t, told == text && last == impl.Join{}, "%q is put together as %q, %v", text, told, last)
	}
}

// somePart is a part that may be any, most often one of a way.
func somePart(dice *rand.Rand, via int) string {
	if dice.Intn(8) == 0 {
		return someText(dice, dice.Intn(24))
	}
	return partOf(via, dice.Intn(4), someText(dice, 1+dice.Intn(21)))
}

func TestP28JoinsThatAreOk(t *testing.T) {
	for _, j := range okJoins() {
		want(t, impl.JoinOk(j), "%v is not ok", j)
	}
	for _, j := range badJoins() {
		want(t, !impl.JoinOk(j), "%v is ok", j)
		for _, part := range []string{"\xc3hello", "\x43hello", "\x83hello", "\x03hello", "\xc4hello", ""} {
			k, told := impl.SegHear(j, part, 3)
			want(t, k == impl.Join{} && told == "", "SegHear(%v) is %v, %q", j, k, told)
		}
	}
}

func TestP28EachKindOfPart(t *testing.T) {
	for _, c := range []struct {
		j    impl.Join
		part string
		to   impl.Join
		told string
	}{
		{impl.Join{}, "\xc3ab", impl.Join{}, "ab"},
		{impl.Join{}, "\x43ab", impl.Join{Open: true, Text: "ab"}, ""},
		{impl.Join{}, "\x03ab", impl.Join{}, ""},
		{impl.Join{}, "\x83ab", impl.Join{}, ""},
		{impl.Join{Open: true}, "\xc3ab", impl.Join{}, "ab"},
		{impl.Join{Open: true}, "\x03ab", impl.Join{Open: true, Text: "ab"}, ""},
		{impl.Join{Open: true}, "\x83ab", impl.Join{}, "ab"},
		{impl.Join{Open: true, Text: "xy"}, "\xc3ab", impl.Join{}, "ab"},
		{impl.Join{Open: true, Text: "xy"}, "\x43ab", impl.Join{Open: true, Text: "ab"}, ""},
		{impl.Join{Open: true, Text: "xy"}, "\x03ab", impl.Join{Open: true, Text: "xyab"}, ""},
		{impl.Join{Open: true, Text: "xy"}, "\x83ab", impl.Join{}, "xyab"},
		{impl.Join{Open: true, Text: "xy"}, "\x83\x00", impl.Join{}, "xy\x00"},
	} {
		j, told := impl.SegHear(c.j, c.part, 3)
		want(t, j == c.to && told == c.told, "SegHear(%v, %q) is %v, %q", c.j, c.part, j, told)
	}
}

func TestP28SizesOfParts(t *testing.T) {
	j := impl.Join{Open: true, Text: "xy"}
	for size := range 60 {
		for f := range 4 {
			part := partOf(3, f, strings.Repeat("d", 60))[:size]
			k, told := impl.SegHear(j, part, 3)
			if size < 2 || size > 21 {
				want(t, k == j && told == "", "a part of %d bytes makes %v, %q", size, k, told)
				continue
			}
			expected, text := plainSegHear(j, part, 3)
			want(t, k == expected && told == text, "a part of %d bytes makes %v, %q", size, k, told)
			want(t, k != j, "a part of %d bytes changes nothing", size)
		}
	}
}

func TestP28TooManyBytes(t *testing.T) {
	for _, size := range []int{86, 87, 105, 106} {
		j := impl.Join{Open: true, Text: strings.Repeat("j", size)}
		for more := 1; more <= 20; more++ {
			text := strings.Repeat("m", more)
			between, told := impl.SegHear(j, partOf(3, 0, text), 3)
			last, all := impl.SegHear(j, partOf(3, 2, text), 3)
			if size+more > 106 {
				want(t, between == impl.Join{} && told == "", "%d and %d bytes are %v, %q", size, more, between, told)
				want(t, last == impl.Join{} && all == "", "%d and %d bytes are %v, %q", size, more, last, all)
				continue
			}
			want(t, between == impl.Join{Open: true, Text: j.Text + text} && told == "", "%d and %d bytes are %v, %q", size, more, between, told)
			want(t, last == impl.Join{} && all == j.Text+text, "%d and %d bytes are %v, %q", size, more, last, all)
		}
		for _, f := range []int{1, 3} {
			k, told := impl.SegHear(j, partOf(3, f, "first"), 3)
			expected, text := plainSegHear(j, partOf(3, f, "first"), 3)
			want(t, k == expected && told == text && k != j, "a first part behind %d bytes makes %v, %q", size, k, told)
		}
	}
}

func TestP28AnyPartsOneBehindTheOther(t *testing.T) {
	dice := newDice(74)
	for range 2000 {
		via := dice.Intn(64)
		j := okJoins()[dice.Intn(len(okJoins()))]
		for range 15 {
			part := somePart(dice, via)
			expected, text := plainSegHear(j, part, via)
			k, told := impl.SegHear(j, part, via)
			want(t, k == expected && told == text, "SegHear(%v, %q, %d) is %v, %q", j, part, via, k, told)
			want(t, impl.JoinOk(k), "%v is not ok", k)
			j = k
		}
	}
}

func TestP29WithoutTheFirstPart(t *testing.T) {
	dice := newDice(75)
	for size := 1; size <= 106; size++ {
		via := dice.Intn(64)
		parts := impl.SegCut(someText(dice, size), via)
		j := impl.Join{}
		for _, part := range parts[1:] {
			k, told := impl.SegHear(j, part, via)
			want(t, k == impl.Join{} && told == "", "without the first part: %v, %q", k, told)
			j = k
		}
	}
}

func TestP29TheNextPacketIsPutTogetherAllTheSame(t *testing.T) {
	dice := newDice(76)
	for size := 21; size <= 106; size++ {
		via := dice.Intn(64)
		lost := impl.SegCut(someText(dice, size), via)
		text := someText(dice, 1+dice.Intn(106))
		j, told := hearAll(t, impl.Join{}, slices.Concat(lost[1:], impl.SegCut(text, via)), via)
		want(t, told == text && j == impl.Join{}, "%q is put together as %q", text, told)
		j, told = hearAll(t, impl.Join{}, slices.Concat(lost[:len(lost)-1], impl.SegCut(text, via)), via)
		want(t, told == text && j == impl.Join{}, "%q is put together as %q", text, told)
	}
}

func TestP30AnotherWay(t *testing.T) {
	dice := newDice(77)
	for _, j := range okJoins() {
		for via := range 64 {
			for f := range 4 {
				part := partOf(via, f, someText(dice, 1+dice.Intn(20)))
				other := (via + 1 + dice.Intn(63)) % 64
				for _, by := range append(farNumbers(), other, via+64, via-64, via+128, via+256, via+f*64+64, -1-via) {
					k, told := impl.SegHear(j, part, by)
					want(t, k == j && told == "", "SegHear(%v, %q, %d) is %v, %q", j, part, by, k, told)
				}
			}
		}
	}
}

func TestPartsShareNoMemory(t *testing.T) {
	text := strings.Repeat("d", 106)
	parts := impl.SegCut(text, 3)
	all := parts[:cap(parts)]
	for i := range all {
		all[i] = "written"
	}
	want(t, sameTexts(impl.SegCut(text, 3), plainSegCut(text, 3)), "SegCut is %q", impl.SegCut(text, 3))
}
