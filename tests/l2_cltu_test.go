package tests

import (
	"strings"
	"testing"

	"loop.example/skyway/impl"
)

const (
	theStart = "\xeb\x90"
	theEnd   = "\xc5\xc5\xc5\xc5\xc5\xc5\xc5\x79"
)

// plainBlock is seven bytes as a code block.
func plainBlock(seven string) string {
	return seven + string([]byte{byte(plainBch(seven))})
}

// plainGet is CltuGet as the document says it.
func plainGet(text string) (string, int) {
	out := ""
	n := 0
	for len(text) >= n+8 && len(out)+7 <= 63 && plainBlock(text[n:n+7]) == text[n:n+8] {
		out += text[n : n+7]
		n += 8
	}
	return out, n
}

// plainFind is CltuFind as the document says it.
func plainFind(stream string) ([]string, string) {
	if len(stream) > 400 {
		return nil, ""
	}
	var list []string
	at := 0
	for at < len(stream) {
		if at == len(stream)-1 && stream[at] == 235 {
			return list, stream[at:]
		}
		if stream[at] != 235 || stream[at+1] != 144 {
			at++
			continue
		}
		text, n := plainGet(stream[at+2:])
		behind := len(stream) - (at + 2 + n)
		if behind < 8 && len(text)+7 <= 63 {
			return list, stream[at:]
		}
		if text != "" {
			list = append(list, text)
		}
		at += 2 + n
	}
	return list, ""
}

func TestP5SentIsReadBack(t *testing.T) {
	dice := newDice(11)
	for size := 1; size <= impl.CltuMax; size++ {
		text := someText(dice, size)
		sent := impl.CltuPut(text)
		all := theStart
		for at := 0; at < size; at += 7 {
			all += plainBlock(filled(text)[at : at+7])
		}
		want(t, sent == all+theEnd, "CltuPut(%q) is %q", text, sent)
		want(t, impl.CltuRead(sent) == filled(text), "CltuRead of CltuPut(%q) is %q", text, impl.CltuRead(sent))
		want(t, impl.CltuRead(sent+sent) == filled(text), "with more behind it is %q", impl.CltuRead(sent+sent))
	}
}

func TestP5SizesAtTheEdge(t *testing.T) {
	want(t, impl.CltuPut("") == "", "nothing is sent as %q", impl.CltuPut(""))
	want(t, impl.CltuPut(strings.Repeat("z", 64)) == "", "one more than CltuMax is sent")
	want(t, len(impl.CltuPut(strings.Repeat("z", 63))) == 2+9*8+8, "CltuMax bytes are not sent")
	want(t, len(impl.CltuPut("1234567")) == 2+8+8, "a block that is just full is %q", impl.CltuPut("1234567"))
	want(t, len(impl.CltuPut("12345678")) == 2+2*8+8, "a byte behind a full block is %q", impl.CltuPut("12345678"))
	want(t, impl.CltuRead(impl.CltuPut("1234567")) == "1234567", "a block that is just full is read as %q", impl.CltuRead(impl.CltuPut("1234567")))
}

func TestP5NothingWithoutStart(t *testing.T) {
	sent := impl.CltuPut("hello")
	for _, text := range []string{"", "\xeb", "\x90", "\x90\xeb", sent[1:], sent[2:], "z" + sent, "\xeb" + sent, "\xeb\x91" + sent[2:], "\xea\x90" + sent[2:]} {
		want(t, impl.CltuRead(text) == "", "CltuRead(%q) is %q", text, impl.CltuRead(text))
	}
	want(t, impl.CltuRead(theStart) == "", "CltuRead of a start alone is %q", impl.CltuRead(theStart))
}

func TestP6OnlyRightBlocks(t *testing.T) {
	dice := newDice(12)
	for n := range 2000 {
		text := ""
		for range dice.Intn(13) {
			text += plainBlock(someText(dice, 7))
		}
		text += someText(dice, dice.Intn(12))
		if n%3 == 0 && text != "" {
			text = turned(text, dice.Intn(len(text)), 1+dice.Intn(255))
		}
		got, size := impl.CltuGet(text)
		expected, bytes := plainGet(text)
		want(t, got == expected && size == bytes, "CltuGet(%q) is %q, %d", text, got, size)
		want(t, size <= len(text) && len(got)*8 == size*7, "CltuGet(%q) takes %d", text, size)
		for at := 0; at*8 < size; at++ {
			seven := got[at*7 : at*7+7]
			want(t, text[at*8:at*8+8] == seven+string([]byte{byte(impl.Bch(seven))}), "block %d of %q", at, text)
		}
	}
}

func TestP6AtMostCltuMaxTogether(t *testing.T) {
	nine := strings.Repeat(plainBlock("abcdefg"), 9)
	for _, behind := range []string{"", plainBlock("hijklmn"), nine} {
		got, size := impl.CltuGet(nine + behind)
		want(t, got == strings.Repeat("abcdefg", 9) && size == 72, "CltuGet is %q, %d", got, size)
	}
	got, size := impl.CltuGet(nine[:71])
	want(t, len(got) == 56 && size == 64, "CltuGet of a block less a byte is %q, %d", got, size)
	got, size = impl.CltuGet("")
	want(t, got == "" && size == 0, "CltuGet of nothing is %q, %d", got, size)
	got, size = impl.CltuGet(theEnd)
	want(t, got == "" && size == 0, "CltuGet of an end is %q, %d", got, size)
}

func TestP7SpoiltIsNotRead(t *testing.T) {
	dice := newDice(13)
	for _, size := range []int{1, 7, 8, 30, 62, 63} {
		text := someText(dice, size)
		sent := impl.CltuPut(text)
		for at := 0; at < len(sent)-8; at++ {
			for mask := 1; mask < 128; mask++ {
				got := impl.CltuRead(turned(sent, at, mask))
				want(t, len(got) < len(filled(text)) && strings.HasPrefix(filled(text), got), "byte %d of CltuPut(%q) turned by %d: %q", at, text, mask, got)
				if at >= 2 {
					want(t, len(got) == (at-2)/8*7, "byte %d of CltuPut(%q) turned by %d: %q", at, text, mask, got)
				}
			}
		}
	}
}

func TestP8AllSentIsFound(t *testing.T) {
	dice := newDice(14)
	for a := 1; a <= 63; a++ {
		for _, b := range []int{1, 6, 7, 8, 56, 57, 62, 63} {
			x, y := impl.CltuPut(someText(dice, a)), impl.CltuPut(someText(dice, b))
			list, left := impl.CltuFind(x + y)
			want(t, sameTexts(list, []string{impl.CltuRead(x), impl.CltuRead(y)}) && left == "", "CltuFind(%q) is %q, %q", x+y, list, left)
		}
	}
}

func TestP8StreamAtTheEdge(t *testing.T) {
	full := strings.Repeat("z", 63)
	x := impl.CltuPut(full)
	stream := x + x + x + x + strings.Repeat("\x00", impl.StreamMax-4*len(x))
	list, left := impl.CltuFind(stream)
	want(t, sameTexts(list, []string{full, full, full, full}) && left == "", "%q, %q", list, left)
	list, left = impl.CltuFind(stream + "\x00")
	want(t, len(list) == 0 && left == "", "one more than StreamMax: %q, %q", list, left)
	list, left = impl.CltuFind("")
	want(t, len(list) == 0 && left == "", "of nothing: %q, %q", list, left)
}

func TestP8WhatStandsBetween(t *testing.T) {
	x := impl.CltuPut("ab")
	read := "abUUUUU"
	spoilt := turned(x, 4, 1)
	for _, c := range []struct {
		stream string
		list   []string
		left   string
	}{
		{"\xeb", nil, "\xeb"},
		{"zz\xeb", nil, "\xeb"},
		{"\xeb\xeb", nil, "\xeb"},
		{"\xeb\x91", nil, ""},
		{x + "\xeb", []string{read}, "\xeb"},
		{"\xeb" + x, []string{read}, ""},
		{"junk" + x + "junk" + x + "junk", []string{read, read}, ""},
		{theStart, nil, theStart},
		{theStart + "1234567", nil, theStart + "1234567"},
		{theStart + "12345678", nil, ""},
		{theStart + x, []string{read}, ""},
		{spoilt + x, []string{read}, ""},
		{spoilt, nil, ""},
		{x[:10], nil, x[:10]},
		{x[:17], nil, x[:17]},
		{x[:10] + "12345678", []string{read}, ""},
		{x[:10] + x, []string{read, read}, ""},
		{x[:10] + x[:10], []string{read}, x[:10]},
		{theEnd + x, []string{read}, ""},
	} {
		list, left := impl.CltuFind(c.stream)
		want(t, sameTexts(list, c.list) && left == c.left, "CltuFind(%q) is %q, %q", c.stream, list, left)
	}
}

func TestP8AsTheDocumentSays(t *testing.T) {
	dice := newDice(15)
	for range 20000 {
		stream := ""
		for range dice.Intn(6) {
			part := impl.CltuPut(someText(dice, 1+dice.Intn(63)))
			switch dice.Intn(6) {
			case 0:
				part = part[:dice.Intn(len(part)+1)]
			case 1:
				part = part[dice.Intn(len(part)+1):]
			case 2:
				part = turned(part, dice.Intn(len(part)), 1+dice.Intn(255))
			case 3:
				part = someText(dice, dice.Intn(5))
			case 4:
				part = "\xeb\x90\xeb\x90\xeb"[:dice.Intn(6)]
			}
			stream += part
		}
		list, left := impl.CltuFind(stream)
		expected, rest := plainFind(stream)
		want(t, sameTexts(list, expected) && left == rest, "CltuFind(%q) is %q, %q", stream, list, left)
	}
}

func TestP9BrokenOffGoesOn(t *testing.T) {
	dice := newDice(16)
	for size := 1; size <= 63; size++ {
		x := impl.CltuPut(someText(dice, size))
		for cut := 0; cut <= len(x); cut++ {
			list, left := impl.CltuFind(x[:cut])
			more, rest := impl.CltuFind(left + x[cut:])
			all := append(append([]string{}, list...), more...)
			want(t, sameTexts(all, []string{impl.CltuRead(x)}) && rest == "", "%q cut at %d: %q, %q, left %q, %q", x, cut, list, more, left, rest)
		}
	}
}

func TestP9FullTextIsToldAtOnce(t *testing.T) {
	full := strings.Repeat("z", 63)
	x := impl.CltuPut(full)
	list, left := impl.CltuFind(x[:len(x)-8])
	want(t, sameTexts(list, []string{full}) && left == "", "CltuMax bytes without an end: %q, %q", list, left)
	y := impl.CltuPut(full[:56])
	list, left = impl.CltuFind(y[:len(y)-8])
	want(t, len(list) == 0 && left == y[:len(y)-8], "a block less without an end: %q, %q", list, left)
	list, left = impl.CltuFind(y[:len(y)-1])
	want(t, len(list) == 0 && left == y[:len(y)-1], "seven bytes behind: %q, %q", list, left)
}
