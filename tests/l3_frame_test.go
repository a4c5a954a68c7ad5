package tests

import (
	"math"
	"math/rand"
	"strings"
	"testing"

	"loop.example/skyway/impl"
)

// someFrame is a frame that is ok.
func someFrame(dice *rand.Rand) impl.Frame {
	f := impl.Frame{Craft: dice.Intn(1024), Via: dice.Intn(64), Seq: dice.Intn(256), Data: someText(dice, 1+dice.Intn(53))}
	switch dice.Intn(3) {
	case 0:
		f.Past = true
	case 1:
		f.Past, f.Govern = true, true
	}
	return f
}

// withSum is a text with its sum behind.
func withSum(text string) string {
	return text + impl.NumPut(plainCrc(text), 2)
}

// badFrames are frames that are not ok, each by one thing.
func badFrames() []impl.Frame {
	return []impl.Frame{
		{},
		{Craft: -1, Data: "x"},
		{Craft: 1024, Data: "x"},
		{Via: -1, Data: "x"},
		{Via: 64, Data: "x"},
		{Seq: -1, Data: "x"},
		{Seq: 256, Data: "x"},
		{Craft: 5, Via: 3, Seq: 9},
		{Data: strings.Repeat("d", 54)},
		{Govern: true, Data: "\x00"},
		{Past: true, Govern: true},
		{Craft: math.MaxInt, Data: "x"},
		{Craft: math.MinInt, Via: math.MinInt, Seq: math.MinInt, Data: "x"},
		{Past: true, Govern: true, Craft: 1024, Data: "\x00"},
	}
}

func TestP10FramesAreReadBack(t *testing.T) {
	dice := newDice(21)
	frames := []impl.Frame{
		{Data: "d"},
		{Craft: 1023, Via: 63, Seq: 255, Data: strings.Repeat("d", 53)},
		{Past: true, Craft: 1023, Via: 63, Seq: 255, Data: strings.Repeat("\x00", 53)},
		{Past: true, Govern: true, Craft: 1023, Via: 63, Seq: 255, Data: strings.Repeat("\xff", 53)},
	}
	for range 3000 {
		frames = append(frames, someFrame(dice))
	}
	for _, f := range frames {
		want(t, impl.FrameOk(f), "%v is not ok", f)
		text := impl.FramePut(f)
		want(t, len(text) == len(f.Data)+7, "FramePut(%v) has %d bytes", f, len(text))
		for _, behind := range []string{"", "UU", "\x00\x00", text[:min(len(text), 63-len(text))]} {
			back, ok := impl.FrameGet(text + behind)
			want(t, ok && back == f, "FrameGet of FramePut(%v) and %q is %v, %t", f, behind, back, ok)
		}
	}
}

func TestP10FrameInBytes(t *testing.T) {
	for _, c := range []struct {
		f    impl.Frame
		head string
	}{
		{impl.Frame{Craft: 5, Via: 3, Seq: 9, Data: "hi"}, "\x00\x05\x0c\x08\x09hi"},
		{impl.Frame{Past: true, Craft: 1, Via: 1, Seq: 255, Data: "x"}, "\x20\x01\x04\x07\xffx"},
		{impl.Frame{Past: true, Govern: true, Craft: 1023, Via: 63, Seq: 0, Data: "\x00"}, "\x33\xff\xfc\x07\x00\x00"},
	} {
		want(t, impl.FramePut(c.f) == withSum(c.head), "FramePut(%v) is %q", c.f, impl.FramePut(c.f))
	}
}

func TestP10FramesThatAreNotOk(t *testing.T) {
	for _, f := range badFrames() {
		want(t, !impl.FrameOk(f), "%v is ok", f)
		want(t, impl.FramePut(f) == "", "FramePut(%v) is %q", f, impl.FramePut(f))
	}
}

func TestP10WhatIsReadStandsThere(t *testing.T) {
	dice := newDice(22)
	for head := range 65536 {
		text := withSum(impl.NumPut(head, 2) + "\x0c\x08\x09hi")
		f, ok := impl.FrameGet(text + "U")
		fine := head < 16384 && head/1024%4 == 0 && (head&4096 == 0 || head&8192 != 0)
		want(t, ok == fine, "FrameGet with the head %d is %t", head, ok)
		if ok {
			want(t, impl.FrameOk(f) && strings.HasPrefix(text, impl.FramePut(f)), "FrameGet with the head %d is %v", head, f)
		} else {
			want(t, f == impl.Frame{}, "beside a false: %v", f)
		}
	}
	for range 20000 {
		text := withSum(impl.NumPut(dice.Intn(1024), 2) + impl.NumPut(dice.Intn(64)*1024+dice.Intn(20), 2) + someText(dice, dice.Intn(12)))
		f, ok := impl.FrameGet(text)
		if ok {
			want(t, impl.FrameOk(f) && strings.HasPrefix(text, impl.FramePut(f)), "FrameGet(%q) is %v", text, f)
		} else {
			want(t, f == impl.Frame{}, "beside a false: %v", f)
		}
	}
}

func TestP10SizesThatAreToldWrong(t *testing.T) {
	for size := range 64 {
		data := strings.Repeat("d", max(size-6, 0))
		text := withSum(("\x00\x05" + impl.NumPut(3*1024+size, 2) + "\x09" + data))
		f, ok := impl.FrameGet(text)
		want(t, ok == (size >= 7 && size <= 59), "FrameGet of the size %d is %v, %t", size, f, ok)
	}
	text := impl.FramePut(impl.Frame{Craft: 5, Via: 3, Seq: 9, Data: "hello"})
	for size := range text {
		f, ok := impl.FrameGet(text[:size])
		want(t, !ok && f == impl.Frame{}, "FrameGet of %d bytes is %v, %t", size, f, ok)
	}
}

func TestP10TextsAtTheEdge(t *testing.T) {
	long := impl.FramePut(impl.Frame{Data: strings.Repeat("d", 53)})
	short := impl.FramePut(impl.Frame{Data: "d"})
	for _, text := range []string{long, short} {
		_, ok := impl.FrameGet(text + strings.Repeat("U", 63-len(text)))
		want(t, ok, "CltuMax bytes are not read")
		f, ok := impl.FrameGet(text + strings.Repeat("U", 64-len(text)))
		want(t, !ok && f == impl.Frame{}, "one more than CltuMax is read as %v", f)
	}
}

func TestP11TurnedDataIsNoFrame(t *testing.T) {
	dice := newDice(23)
	for range 60 {
		text := impl.FramePut(someFrame(dice))
		for at := 4; at < len(text); at++ {
			for mask := 1; mask < 256; mask++ {
				f, ok := impl.FrameGet(turned(text, at, mask))
				want(t, !ok && f == impl.Frame{}, "byte %d of %q turned by %d: %v", at, text, mask, f)
			}
		}
	}
}
