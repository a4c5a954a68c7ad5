package impl

import (
	"errors"
	"strconv"
	"strings"
)

// Limits of code blocks.
const (
	CltuMax   = 63
	StreamMax = 400
)

// Sizes of a code block: its data, and all of it.
const (
	blockData = 7
	blockSize = 8
)

// What stands ahead of code blocks and behind them, and what fills the last one.
const (
	cltuStart = "\xeb\x90"
	cltuEnd   = "\xc5\xc5\xc5\xc5\xc5\xc5\xc5\x79"
	cltuFill  = "\x55"
)

// codeBlocks is a text that may begin with code blocks.
type codeBlocks string

// blockStream is bytes in which code blocks may stand behind starts.
type blockStream string

// brokenOff is the error of a stream that ends where more may come yet.
type brokenOff struct {
	from int
}

// CltuPut is a text as code blocks, with a start ahead and an end behind.
func CltuPut(text string) string {
	if len(text) < 1 || len(text) > CltuMax {
		return ""
	}
	out := cltuStart
	for at := 0; at < len(text); at += blockData {
		out += codeBlock(text[at:min(at+blockData, len(text))])
	}
	return out + cltuEnd
}

// CltuGet is the text of code blocks, and how many bytes they are.
func CltuGet(text string) (string, int) {
	out, size := "", 0
	for data := range codeBlocks(text).each {
		if len(out)+blockData > CltuMax {
			break
		}
		out += data
		size += blockSize
	}
	return out, size
}

// CltuRead is the text of what stands behind a start.
func CltuRead(text string) string {
	blocks, ok := strings.CutPrefix(text, cltuStart)
	if !ok {
		return ""
	}
	out, _ := CltuGet(blocks)
	return out
}

// CltuFind is all texts that a stream of bytes has, and what is left of it that may go on.
func CltuFind(stream string) ([]string, string) {
	if len(stream) > StreamMax {
		return nil, ""
	}
	var list []string
	for text, err := range blockStream(stream).each {
		var broken brokenOff
		if errors.As(err, &broken) {
			return list, stream[broken.from:]
		}
		list = append(list, text)
	}
	return list, ""
}

// codeBlock is one block of at most seven bytes.
func codeBlock(text string) string {
	data := text + strings.Repeat(cltuFill, blockData-len(text))
	return data + NumPut(Bch(data), 1)
}

// each tells the data of one block behind the other, up to the first that is not right.
func (c codeBlocks) each(yield func(string) bool) {
	for at := 0; at+blockSize <= len(c); at += blockSize {
		data := string(c[at : at+blockData])
		if Bch(data) != int(c[at+blockData]) || !yield(data) {
			return
		}
	}
}

// each tells the text behind one start after the other, and last an error, if the stream breaks off.
func (s blockStream) each(yield func(string, error) bool) {
	for at := 0; at < len(s); {
		text, size, err := s.read(at)
		if err != nil {
			yield("", err)
			return
		}
		if text != "" && !yield(text, nil) {
			return
		}
		at += size
	}
}

// read is the text whose start is at a place, and how many bytes further it goes on.
func (s blockStream) read(at int) (string, int, error) {
	rest := string(s[at:])
	if rest == cltuStart[:1] {
		return "", 0, brokenOff{from: at}
	}
	if !strings.HasPrefix(rest, cltuStart) {
		return "", 1, nil
	}
	text, size := CltuGet(rest[len(cltuStart):])
	size += len(cltuStart)
	// Nothing is waited for behind a text to which no further block could come.
	if len(rest)-size < blockSize && len(text)+blockData <= CltuMax {
		return "", 0, brokenOff{from: at}
	}
	return text, size, nil
}

// Error says where the part begins that may go on.
func (b brokenOff) Error() string {
	return "the stream breaks off; what may go on begins at " + strconv.Itoa(b.from)
}
