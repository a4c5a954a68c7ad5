package tests

import (
	"math"
	"strings"
	"testing"

	"loop.example/skyway/impl"
)

// plainCrc is the sum as the document says it, bit by bit.
func plainCrc(text string) int {
	s := 65535
	for i := 0; i < len(text); i++ {
		s ^= int(text[i]) * 256
		for range 8 {
			s *= 2
			if s >= 65536 {
				s = (s - 65536) ^ 4129
			}
		}
	}
	return s
}

// plainBch is the parity as the document says it, of seven bytes.
func plainBch(text string) int {
	s := 0
	for i := 0; i < 56; i++ {
		bit := int(text[i/8]) >> (7 - i%8) & 1
		unlike := s/64%2 != bit
		s = s * 2 % 128
		if unlike {
			s ^= 69
		}
	}
	return (s ^ 127) * 2
}

func TestP1NumbersAreReadBack(t *testing.T) {
	for size := 1; size <= 4; size++ {
		most := 1<<(8*size) - 1
		for _, n := range []int{0, 1, 85, 127, 128, 255, 256, 65535, 65536, 1<<24 - 1, 1 << 24, 1<<32 - 1, most / 3, most - 1, most} {
			if n > most {
				continue
			}
			text := impl.NumPut(n, size)
			want(t, len(text) == size, "NumPut(%d, %d) has %d bytes", n, size, len(text))
			for _, ahead := range []string{"", "\xff", "abc"} {
				back, ok := impl.NumGet(ahead+text+"z", len(ahead), size)
				want(t, ok && back == n, "NumGet of NumPut(%d, %d) is %d, %t", n, size, back, ok)
			}
		}
	}
}

func TestP1WhatIsReadIsWritten(t *testing.T) {
	dice := newDice(1)
	for range 2000 {
		text := someText(dice, dice.Intn(9))
		for at := -2; at <= len(text)+2; at++ {
			for size := -1; size <= 6; size++ {
				n, ok := impl.NumGet(text, at, size)
				there := size >= 1 && size <= 4 && at >= 0 && at+size <= len(text)
				want(t, ok == there, "NumGet(%q, %d, %d) is %t", text, at, size, ok)
				if ok {
					want(t, impl.NumPut(n, size) == text[at:at+size], "NumGet(%q, %d, %d) is %d", text, at, size, n)
				} else {
					want(t, n == 0, "NumGet(%q, %d, %d) is %d beside a false", text, at, size, n)
				}
			}
		}
	}
}

func TestP1HighestByteFirst(t *testing.T) {
	want(t, impl.NumPut(66051, 4) == "\x00\x01\x02\x03", "%q", impl.NumPut(66051, 4))
	want(t, impl.NumPut(0, 1) == "\x00", "%q", impl.NumPut(0, 1))
	want(t, impl.NumPut(math.MaxUint32, 4) == "\xff\xff\xff\xff", "%q", impl.NumPut(math.MaxUint32, 4))
}

func TestP1NumbersWithoutRoom(t *testing.T) {
	for _, c := range []struct{ n, size int }{
		{256, 1}, {65536, 2}, {1 << 24, 3}, {1 << 32, 4}, {math.MaxInt, 4}, {math.MaxInt, 1},
		{-1, 1}, {-1, 4}, {math.MinInt, 4}, {math.MinInt, 1},
		{0, 0}, {1, 0}, {0, 5}, {1, 5}, {0, -1}, {0, math.MaxInt}, {0, math.MinInt}, {-1, -1},
	} {
		want(t, impl.NumPut(c.n, c.size) == "", "NumPut(%d, %d) is %q", c.n, c.size, impl.NumPut(c.n, c.size))
	}
}

func TestP1PlacesThatAreNone(t *testing.T) {
	for _, c := range []struct{ at, size int }{
		{-1, 1}, {4, 1}, {3, 2}, {5, 1}, {0, 5}, {0, 0}, {0, -1}, {4, 0},
		{math.MaxInt, 1}, {math.MaxInt, 4}, {math.MinInt, 1}, {math.MinInt, 4}, {0, math.MaxInt}, {1, math.MaxInt}, {0, math.MinInt},
	} {
		n, ok := impl.NumGet("abcd", c.at, c.size)
		want(t, n == 0 && !ok, "NumGet at %d of size %d is %d, %t", c.at, c.size, n, ok)
	}
	n, ok := impl.NumGet("", 0, 1)
	want(t, n == 0 && !ok, "NumGet of nothing is %d, %t", n, ok)
	n, ok = impl.NumGet("abcd", 3, 1)
	want(t, n == 'd' && ok, "NumGet of the last byte is %d, %t", n, ok)
}

func TestP2SumThatAllKnow(t *testing.T) {
	want(t, impl.Crc16("123456789") == 10673, "%d", impl.Crc16("123456789"))
	want(t, impl.Crc16("") == 65535, "%d", impl.Crc16(""))
	dice := newDice(2)
	for size := range 300 {
		text := someText(dice, size)
		want(t, impl.Crc16(text) == plainCrc(text), "Crc16(%q) is %d", text, impl.Crc16(text))
	}
	for b := range 256 {
		text := string([]byte{byte(b)})
		want(t, impl.Crc16(text) == plainCrc(text), "Crc16(%q) is %d", text, impl.Crc16(text))
	}
}

func TestP2OneByteTurnedIsAnotherSum(t *testing.T) {
	dice := newDice(3)
	for _, size := range []int{1, 2, 7, 60, 400} {
		text := someText(dice, size)
		sum := impl.Crc16(text)
		for at := 0; at < size; at += 1 + size/20 {
			for mask := 1; mask < 256; mask++ {
				want(t, impl.Crc16(turned(text, at, mask)) != sum, "byte %d of %q turned by %d", at, text, mask)
			}
		}
	}
}

func TestP3SumBehindIsNought(t *testing.T) {
	dice := newDice(4)
	for size := range 200 {
		text := someText(dice, size)
		all := text + impl.NumPut(impl.Crc16(text), 2)
		want(t, impl.Crc16(all) == 0, "Crc16(%q) is %d", all, impl.Crc16(all))
	}
}

func TestP4ParityIsEvenAndAnother(t *testing.T) {
	dice := newDice(5)
	for _, text := range []string{"abcdefg", strings.Repeat("\x00", 7), strings.Repeat("\xff", 7), someText(dice, 7), someText(dice, 7), someText(dice, 7)} {
		p := impl.Bch(text)
		want(t, p == plainBch(text), "Bch(%q) is %d", text, p)
		want(t, p >= 0 && p <= 254 && p%2 == 0, "Bch(%q) is %d", text, p)
		for at := range 7 {
			for mask := 1; mask < 128; mask++ {
				other := turned(text, at, mask)
				q := impl.Bch(other)
				want(t, q != p, "byte %d of %q turned by %d", at, text, mask)
				want(t, q == plainBch(other), "Bch(%q) is %d", other, q)
			}
		}
	}
	want(t, impl.Bch("abcdefg") == 220, "%d", impl.Bch("abcdefg"))
}

func TestP4ParityOfSevenBytesOnly(t *testing.T) {
	for size := range 30 {
		p := impl.Bch(strings.Repeat("a", size))
		want(t, (p == -1) == (size != 7), "Bch of %d bytes is %d", size, p)
	}
}
