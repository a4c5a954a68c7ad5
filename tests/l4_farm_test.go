package tests

import (
	"math"
	"strings"
	"testing"

	"loop.example/skyway/impl"
)

// okFarms are all that are ok, with these numbers next.
func okFarms(nexts ...int) []impl.Farm {
	var list []impl.Farm
	for _, next := range nexts {
		for count := range 4 {
			for _, shut := range []bool{false, true} {
				list = append(list,
					impl.Farm{Shut: shut, Count: count, Next: next},
					impl.Farm{Shut: shut, Again: true, Count: count, Next: next},
					impl.Farm{Shut: shut, Waits: true, Again: true, Count: count, Next: next})
			}
		}
	}
	return list
}

// badFarms are some that are not ok.
func badFarms() []impl.Farm {
	return []impl.Farm{
		{Count: -1}, {Count: 4}, {Next: -1}, {Next: 256}, {Waits: true}, {Shut: true, Waits: true},
		{Count: math.MaxInt}, {Next: math.MinInt}, {Next: math.MaxInt, Again: true},
	}
}

// plainHear is what FarmHear does with a frame in order, as the document says it.
func plainHear(f impl.Farm, seq int, room bool) (impl.Farm, int) {
	d := (seq - f.Next + 256) % 256
	if f.Shut {
		return f, 5
	}
	if d >= 8 && d <= 247 {
		f.Shut = true
		return f, 3
	}
	if d > 247 {
		return f, 1
	}
	if f.Waits {
		return f, 4
	}
	if d > 0 {
		f.Again = true
		return f, 2
	}
	if !room {
		f.Waits, f.Again = true, true
		return f, 4
	}
	f.Again = false
	f.Next = (f.Next + 1) % 256
	return f, 0
}

// frameOf is a frame in order.
func frameOf(seq int) impl.Frame {
	return impl.Frame{Craft: 5, Via: 3, Seq: seq, Data: "data"}
}

// counted is one with one more Count.
func counted(f impl.Farm) impl.Farm {
	f.Count = (f.Count + 1) % 4
	return f
}

func TestP12OnlyTheNextIsTaken(t *testing.T) {
	for _, f := range okFarms(0, 1, 7, 8, 127, 128, 247, 248, 254, 255) {
		for seq := range 256 {
			for _, room := range []bool{false, true} {
				g, code := impl.FarmHear(f, frameOf(seq), room)
				expected, k := plainHear(f, seq, room)
				want(t, g == expected && code == k, "FarmHear(%v, %d, %t) is %v, %d", f, seq, room, g, code)
				takes := seq == f.Next && !f.Shut && !f.Waits && room
				want(t, (code == impl.FarmTakes) == takes, "FarmHear(%v, %d, %t) has %d", f, seq, room, code)
				want(t, takes && g.Next == (f.Next+1)%256 || !takes && g.Next == f.Next, "FarmHear(%v, %d, %t) is %v", f, seq, room, g)
				want(t, !f.Shut || g == f, "shut %v becomes %v", f, g)
				want(t, impl.FarmOk(g), "%v is not ok", g)
			}
		}
	}
}

func TestP12DifferencesAtTheEdge(t *testing.T) {
	for _, next := range []int{0, 100, 250, 255} {
		for _, c := range []struct {
			ahead, code int
			shut, again bool
		}{{0, impl.FarmTakes, false, false}, {1, impl.FarmEarly, false, true}, {7, impl.FarmEarly, false, true}, {8, impl.FarmFar, true, false}, {247, impl.FarmFar, true, false}, {248, impl.FarmLate, false, false}, {255, impl.FarmLate, false, false}} {
			g, code := impl.FarmHear(impl.Farm{Next: next}, frameOf((next+c.ahead)%256), true)
			want(t, code == c.code && g.Shut == c.shut && g.Again == c.again, "%d ahead of %d: %v, %d", c.ahead, next, g, code)
		}
	}
	g, code := impl.FarmHear(impl.Farm{Again: true, Next: 255}, frameOf(255), true)
	want(t, g == impl.Farm{} && code == impl.FarmTakes, "behind 255: %v, %d", g, code)
}

func TestP12WhatIsNotOk(t *testing.T) {
	for _, f := range badFarms() {
		want(t, !impl.FarmOk(f), "%v is ok", f)
		for _, x := range []impl.Frame{frameOf(0), impl.FarmOpen(1, 1), {Past: true, Data: "x"}, {}} {
			g, code := impl.FarmHear(f, x, true)
			want(t, g == impl.Farm{} && code == impl.FarmBad, "FarmHear(%v, %v) is %v, %d", f, x, g, code)
		}
	}
	for _, f := range okFarms(0, 9, 255) {
		want(t, impl.FarmOk(f), "%v is not ok", f)
		for _, x := range badFrames() {
			for _, room := range []bool{false, true} {
				g, code := impl.FarmHear(f, x, room)
				want(t, g == f && code == impl.FarmBad, "FarmHear(%v, %v) is %v, %d", f, x, g, code)
			}
		}
	}
}

func TestP13PastTheOrder(t *testing.T) {
	for _, f := range okFarms(0, 3, 255) {
		for _, seq := range []int{0, 3, 4, 100, 255} {
			for _, data := range []string{"\x00", "\x82\x00\x07", "data"} {
				x := impl.Frame{Past: true, Craft: 1, Via: 2, Seq: seq, Data: data}
				g, code := impl.FarmHear(f, x, true)
				want(t, g == counted(f) && code == impl.FarmTakes, "with room %v becomes %v, %d", f, g, code)
				g, code = impl.FarmHear(f, x, false)
				want(t, g == f && code == impl.FarmWaits, "without room %v becomes %v, %d", f, g, code)
			}
		}
	}
}

func TestP14TooFarShuts(t *testing.T) {
	for _, f := range okFarms(0, 7, 200, 255) {
		for _, ahead := range []int{8, 128, 247} {
			g, _ := impl.FarmHear(f, frameOf((f.Next+ahead)%256), true)
			shut := f
			shut.Shut = true
			want(t, g == shut, "%d ahead %v becomes %v", ahead, f, g)
			h, code := impl.FarmHear(g, frameOf(g.Next), true)
			want(t, h == g && code == impl.FarmShut, "shut %v takes: %v, %d", g, h, code)
			h, code = impl.FarmHear(g, impl.FarmOpen(5, 3), true)
			want(t, code == impl.FarmDone, "FarmOpen has %d", code)
			h, code = impl.FarmHear(h, frameOf(f.Next), true)
			want(t, code == impl.FarmTakes && h.Next == (f.Next+1)%256, "opened it is %v, %d", h, code)
		}
	}
}

func TestP15NumberThatIsNext(t *testing.T) {
	for _, f := range okFarms(0, 9, 255) {
		for _, next := range []int{0, 1, 127, 128, 254, 255} {
			for _, room := range []bool{false, true} {
				g, code := impl.FarmHear(f, impl.FarmSet(5, 3, next), room)
				want(t, code == impl.FarmDone, "FarmSet has %d", code)
				if f.Shut {
					want(t, g == counted(f), "shut %v becomes %v", f, g)
					continue
				}
				want(t, g == counted(impl.Farm{Count: f.Count, Next: next}), "%v becomes %v", f, g)
				h, code := impl.FarmHear(g, frameOf(next), true)
				want(t, code == impl.FarmTakes && h.Next == (next+1)%256, "%v becomes %v, %d", g, h, code)
			}
		}
	}
}

func TestP15OrdersThatAreNone(t *testing.T) {
	for _, f := range okFarms(0, 9, 255) {
		for _, data := range []string{"\x01", "\x00\x00", "\x82", "\x82\x00", "\x82\x00\x01\x00", "\x82\x01\x01", "\x81\x00\x01", "\x00\x00\x01", strings.Repeat("\x00", 53)} {
			x := impl.Frame{Past: true, Govern: true, Data: data}
			g, code := impl.FarmHear(f, x, true)
			want(t, g == f && code == impl.FarmBad, "the order %q makes %v of %v, %d", data, g, f, code)
		}
	}
}

func TestP15FramesThatGovern(t *testing.T) {
	for _, c := range []struct{ craft, via int }{{0, 0}, {5, 3}, {1023, 63}, {-1, 0}, {1024, 0}, {0, -1}, {0, 64}, {math.MinInt, math.MaxInt}} {
		ok := c.craft >= 0 && c.craft <= 1023 && c.via >= 0 && c.via <= 63
		open, set, last := impl.Frame{}, impl.Frame{}, impl.Frame{}
		if ok {
			open = impl.Frame{Past: true, Govern: true, Craft: c.craft, Via: c.via, Data: "\x00"}
			set, last = open, open
			set.Data, last.Data = "\x82\x00\x00", "\x82\x00\xff"
		}
		want(t, impl.FarmOpen(c.craft, c.via) == open, "FarmOpen(%d, %d) is %v", c.craft, c.via, impl.FarmOpen(c.craft, c.via))
		want(t, impl.FarmSet(c.craft, c.via, 0) == set, "FarmSet(%d, %d, 0) is %v", c.craft, c.via, impl.FarmSet(c.craft, c.via, 0))
		want(t, impl.FarmSet(c.craft, c.via, 255) == last, "FarmSet(%d, %d, 255) is %v", c.craft, c.via, impl.FarmSet(c.craft, c.via, 255))
	}
	for _, next := range []int{-1, 256, math.MaxInt, math.MinInt} {
		want(t, impl.FarmSet(5, 3, next) == impl.Frame{}, "FarmSet of %d is %v", next, impl.FarmSet(5, 3, next))
	}
}

func TestP16OpenedNothingElseChanges(t *testing.T) {
	for _, f := range okFarms(0, 1, 128, 254, 255) {
		for _, room := range []bool{false, true} {
			g, code := impl.FarmHear(f, impl.FarmOpen(5, 3), room)
			want(t, g == counted(impl.Farm{Count: f.Count, Next: f.Next}) && code == impl.FarmDone, "%v becomes %v, %d", f, g, code)
		}
	}
}

func TestP17RoomAgain(t *testing.T) {
	for _, f := range okFarms(0, 1, 128, 254, 255) {
		g := impl.FarmRoom(f)
		expected := f
		expected.Waits = false
		want(t, g == expected, "FarmRoom(%v) is %v", f, g)
		h, code := impl.FarmHear(g, frameOf(g.Next), true)
		want(t, (code == impl.FarmTakes) == !f.Shut, "behind FarmRoom(%v): %v, %d", f, h, code)
	}
	for _, f := range badFarms() {
		want(t, impl.FarmRoom(f) == impl.Farm{}, "FarmRoom(%v) is %v", f, impl.FarmRoom(f))
	}
	f, code := impl.FarmHear(impl.Farm{Next: 3}, frameOf(3), false)
	want(t, f == impl.Farm{Waits: true, Again: true, Next: 3} && code == impl.FarmWaits, "without room: %v, %d", f, code)
	f, code = impl.FarmHear(f, frameOf(3), true)
	want(t, f.Waits && code == impl.FarmWaits, "waiting, with room that it was not told of: %v, %d", f, code)
	f, code = impl.FarmHear(impl.FarmRoom(f), frameOf(3), true)
	want(t, f == impl.Farm{Next: 4} && code == impl.FarmTakes, "told of room: %v, %d", f, code)
}

func TestP18HowItStandsIsReadBack(t *testing.T) {
	var nexts []int
	for next := range 256 {
		nexts = append(nexts, next)
	}
	for _, f := range okFarms(nexts...) {
		text := impl.FarmPut(f)
		want(t, len(text) == 4, "FarmPut(%v) is %q", f, text)
		back, ok := impl.FarmGet(text)
		want(t, ok && back == f, "FarmGet of FarmPut(%v) is %v, %t", f, back, ok)
	}
	for _, f := range badFarms() {
		want(t, impl.FarmPut(f) == "", "FarmPut(%v) is %q", f, impl.FarmPut(f))
	}
	want(t, impl.FarmPut(impl.Farm{Shut: true, Waits: true, Again: true, Count: 3, Next: 255}) == "\x01\x00\x3e\xff", "%q", impl.FarmPut(impl.Farm{Shut: true, Waits: true, Again: true, Count: 3, Next: 255}))
}

func TestP18WhatIsReadIsWritten(t *testing.T) {
	for first := range 256 {
		for flags := range 256 {
			for _, second := range []int{0, 1, 128} {
				text := string([]byte{byte(first), byte(second), byte(flags), 9})
				f, ok := impl.FarmGet(text)
				fine := first == 1 && second == 0 && flags < 64 && flags%2 == 0 && (flags&16 == 0 || flags&8 != 0)
				want(t, ok == fine, "FarmGet(%q) is %v, %t", text, f, ok)
				want(t, ok && impl.FarmPut(f) == text || !ok && f == impl.Farm{}, "FarmGet(%q) is %v, %t", text, f, ok)
			}
		}
	}
	for _, text := range []string{"", "\x01", "\x01\x00", "\x01\x00\x00", "\x01\x00\x00\x00\x00", "z\x01\x00\x00\x00"} {
		f, ok := impl.FarmGet(text)
		want(t, !ok && f == impl.Farm{}, "FarmGet(%q) is %v, %t", text, f, ok)
	}
}

func TestP19TwiceIsTakenOnce(t *testing.T) {
	for next := range 256 {
		f, code := impl.FarmHear(impl.Farm{Again: true, Count: 2, Next: next}, frameOf(next), true)
		want(t, code == impl.FarmTakes, "%d has %d", next, code)
		g, code := impl.FarmHear(f, frameOf(next), true)
		want(t, g == f && code == impl.FarmLate, "%d again: %v, %d", next, g, code)
	}
}
