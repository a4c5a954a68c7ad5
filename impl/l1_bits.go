// Package impl: a craft that is commanded from far.
package impl

// numMost is how many bytes a number has at most.
const numMost = 4

// What a sum of sixteen bits begins with, and what comes in when a bit falls out of it.
const (
	sumBegin = 65535
	sumTurn  = 4129
)

// What a parity takes in for an unlike bit, the bits that it has, and the bits of a byte.
const (
	parityTurn = 69
	parityBits = 127
	byteBits   = 8
)

// sum16 is the sum of the bytes up to some place of a text.
type sum16 uint16

// sumTable is what each four bits that fall out of a sum leave behind.
type sumTable [16]sum16

// parity is the parity of the bits up to some place of seven bytes.
type parity uint8

// NumPut is a number in so many bytes, the highest first.
func NumPut(n int, size int) string {
	if size < 1 || size > numMost || n < 0 || n>>(byteBits*size) != 0 {
		return ""
	}
	text := make([]byte, size)
	for i := size - 1; i >= 0; i-- {
		text[i] = byte(n)
		n >>= byteBits
	}
	return string(text)
}

// NumGet is the number in so many bytes of a text.
func NumGet(text string, at int, size int) (int, bool) {
	// The end is taken from the text's size, as at and size together may be more than an int holds.
	if size < 1 || size > numMost || at < 0 || at > len(text)-size {
		return 0, false
	}
	n := 0
	for i := range size {
		n = n<<byteBits | int(text[at+i])
	}
	return n, true
}

// Crc16 is the sum of a text, in sixteen bits.
func Crc16(text string) int {
	table := newSumTable()
	sum := sum16(sumBegin)
	for i := range len(text) {
		sum = sum.add(table, text[i])
	}
	return int(sum)
}

// Bch is the parity byte of seven bytes.
func Bch(text string) int {
	if len(text) != blockData {
		return -1
	}
	var p parity
	for i := range len(text) {
		p = p.add(text[i])
	}
	return int(p^parityBits) * 2
}

// newSumTable goes by four bits: each call makes its own table, and one by whole bytes would be more work than most texts.
func newSumTable() sumTable {
	var table sumTable
	for i := range table {
		sum := sum16(i) << 12
		for range 4 {
			sum = sum.twice()
		}
		table[i] = sum
	}
	return table
}

// twice is a sum one bit further.
func (s sum16) twice() sum16 {
	if s>>15 == 1 {
		return s<<1 ^ sumTurn
	}
	return s << 1
}

// add is a sum one byte further.
func (s sum16) add(table sumTable, b byte) sum16 {
	s = s<<4 ^ table[byte(s>>12)^b>>4]
	return s<<4 ^ table[byte(s>>12)^b&15]
}

// add is a parity one byte further; it goes bit by bit, as a table would be more work than seven bytes are.
func (p parity) add(b byte) parity {
	for bit := byteBits - 1; bit >= 0; bit-- {
		unlike := byte(p)>>6&1 != b>>bit&1
		p = p << 1 & parityBits
		if unlike {
			p ^= parityTurn
		}
	}
	return p
}

// upTo says whether a number is in 0..most.
func upTo(n int, most int) bool {
	return n >= 0 && n <= most
}
