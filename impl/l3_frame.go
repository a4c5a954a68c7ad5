package impl

import "errors"

// Limits of frames.
const (
	FrameMax = 60
	CraftMax = 1023
	ViaMax   = 63
	SeqMax   = 255
)

// frameRest is how many bytes a frame has beside its data.
const frameRest = 7

// What stands beside the numbers in a frame's first four bytes.
const (
	framePast   = 8192
	frameGovern = 4096
	frameVia    = 1024
)

var (
	errShort = errors.New("the text ends ahead of the field")
	errOther = errors.New("the fields do not make up the text")
)

// Frame is what is sent up: past the order or not, to govern the order or not, to which craft, by which way, its number, and data.
type Frame struct {
	Past   bool
	Govern bool
	Craft  int
	Via    int
	Seq    int
	Data   string
}

// frameKind is what a frame is sent as; a type switch tells which.
type frameKind interface {
	isFrameKind()
}

// inOrder is a frame that has its place among others.
type inOrder struct {
	seq int
}

// pastOrder is a frame that is taken whenever it comes.
type pastOrder struct{}

// governs is a frame that says how order is kept from now on.
type governs struct {
	order string
}

// cursor reads the fields of a text, one behind the other; behind its first fault it reads nothing more.
type cursor struct {
	text  string
	at    int
	fault error
}

// FrameOk says whether a frame is ok.
func FrameOk(f Frame) bool {
	return upTo(f.Craft, CraftMax) && upTo(f.Via, ViaMax) && upTo(f.Seq, SeqMax) &&
		frameDataOk(f.Data) && (f.Past || !f.Govern)
}

// FramePut is a frame in bytes.
func FramePut(f Frame) string {
	if !FrameOk(f) {
		return ""
	}
	// The size that is told is one less than that of the whole frame.
	size := len(f.Data) + frameRest - 1
	text := NumPut(f.Craft+frameFlags(frameKindOf(f)), 2) + NumPut(f.Via*frameVia+size, 2) + NumPut(f.Seq, 1) + f.Data
	return text + NumPut(Crc16(text), 2)
}

// FrameGet is the frame with which a text begins.
func FrameGet(text string) (Frame, bool) {
	if len(text) > CltuMax {
		return Frame{}, false
	}
	c := cursor{text: text}
	f := c.frame()
	// Writing it once more catches all at once: the sum, bits that mean nothing, and what is not ok.
	c.must(FramePut(f) == text[:c.at])
	if c.fault != nil {
		return Frame{}, false
	}
	return f, true
}

// frameDataOk says whether a text may be a frame's data.
func frameDataOk(data string) bool {
	return len(data) >= 1 && len(data) <= FrameMax-frameRest
}

// frameKindOf is what a frame is sent as.
func frameKindOf(f Frame) frameKind {
	switch {
	case f.Govern:
		return governs{order: f.Data}
	case f.Past:
		return pastOrder{}
	}
	return inOrder{seq: f.Seq}
}

// frameFlags is what a kind adds to a frame's first number.
func frameFlags(kind frameKind) int {
	switch kind.(type) {
	case governs:
		return framePast + frameGovern
	case pastOrder:
		return framePast
	}
	return 0
}

func (inOrder) isFrameKind() {}

func (pastOrder) isFrameKind() {}

func (governs) isFrameKind() {}

// frame reads the fields of a frame, its sum last.
func (c *cursor) frame() Frame {
	head := c.number(2)
	way := c.number(2)
	seq := c.number(1)
	data := c.bytes(way%frameVia + 1 - frameRest)
	c.bytes(2)
	return Frame{
		Past:   head&framePast != 0,
		Govern: head&frameGovern != 0,
		Craft:  head & CraftMax,
		Via:    way / frameVia,
		Seq:    seq,
		Data:   data,
	}
}

// number reads a number of so many bytes; it is 0 behind a fault, as there are no bytes then.
func (c *cursor) number(size int) int {
	n, _ := NumGet(c.bytes(size), 0, size)
	return n
}

// bytes reads so many bytes.
func (c *cursor) bytes(size int) string {
	if size < 0 || size > len(c.text)-c.at {
		c.fail(errShort)
	}
	if c.fault != nil {
		return ""
	}
	c.at += size
	return c.text[c.at-size : c.at]
}

// must takes it for a fault if something does not hold.
func (c *cursor) must(holds bool) {
	if !holds {
		c.fail(errOther)
	}
}

// fail keeps a fault, unless there was one ahead.
func (c *cursor) fail(fault error) {
	if c.fault == nil {
		c.fault = fault
	}
}
