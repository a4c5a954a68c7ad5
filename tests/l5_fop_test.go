package tests

import (
	"math"
	"math/rand"
	"reflect"
	"strconv"
	"strings"
	"testing"

	"loop.example/skyway/impl"
)

// someFop is a sender that is ok, with so many under way.
func someFop(next int, under int, shut bool) impl.Fop {
	f := impl.Fop{Craft: 5, Via: 3, Next: next, Shut: shut}
	for i := range under {
		f.Sent = append(f.Sent, "data "+strconv.Itoa(i))
	}
	return f
}

// okFops are senders that are ok, of which some go round.
func okFops() []impl.Fop {
	var list []impl.Fop
	for _, next := range []int{0, 1, 2, 3, 4, 100, 254, 255} {
		for under := range impl.FopMost + 1 {
			list = append(list, someFop(next, under, false), someFop(next, under, true))
		}
	}
	long := strings.Repeat("d", 53)
	return append(list, impl.Fop{Craft: 1023, Via: 63, Next: 255, Sent: []string{long, "d", long, long}})
}

// badFops are senders that are not ok.
func badFops() []impl.Fop {
	return []impl.Fop{
		{Craft: -1}, {Craft: 1024}, {Via: -1}, {Via: 64}, {Next: -1}, {Next: 256},
		{Sent: []string{""}}, {Sent: []string{"a", "b", ""}}, {Sent: []string{strings.Repeat("d", 54)}},
		{Sent: []string{"a", "b", "c", "d", "e"}},
		{Craft: math.MinInt}, {Via: math.MaxInt}, {Next: math.MaxInt},
	}
}

// sameFop says whether two senders are the same.
func sameFop(a impl.Fop, b impl.Fop) bool {
	return a.Craft == b.Craft && a.Via == b.Via && a.Next == b.Next && a.Shut == b.Shut && sameTexts(a.Sent, b.Sent)
}

// copied is a sender with memory of its own.
func copied(f impl.Fop) impl.Fop {
	f.Sent = append([]string{}, f.Sent...)
	return f
}

// mod256 is a number that goes round.
func mod256(n int) int {
	return (n%256 + 256) % 256
}

func TestP20SentWithTheNextNumber(t *testing.T) {
	for _, f := range okFops() {
		want(t, impl.FopOk(f), "%v is not ok", f)
		for _, data := range []string{"x", strings.Repeat("d", 53)} {
			g, frames := impl.FopSend(f, data)
			want(t, impl.FopFirst(g) == impl.FopFirst(f), "FopFirst of %v becomes %d", f, impl.FopFirst(g))
			if f.Shut || len(f.Sent) == impl.FopMost {
				want(t, sameFop(g, f) && len(frames) == 0, "%v sends %v", f, frames)
				continue
			}
			expected := copied(f)
			expected.Sent = append(expected.Sent, data)
			expected.Next = mod256(f.Next + 1)
			want(t, sameFop(g, expected), "%v becomes %v", f, g)
			want(t, len(frames) == 1 && frames[0] == impl.Frame{Craft: f.Craft, Via: f.Via, Seq: f.Next, Data: data}, "%v sends %v", f, frames)
			want(t, impl.FrameOk(frames[0]), "%v is not ok", frames[0])
		}
		for _, data := range []string{"", strings.Repeat("d", 54)} {
			g, frames := impl.FopSend(f, data)
			want(t, sameFop(g, f) && len(frames) == 0, "%v sends %d bytes: %v", f, len(data), frames)
		}
	}
}

func TestP20NeverMoreUnderWay(t *testing.T) {
	f := impl.Fop{Craft: 5, Via: 3, Next: 254}
	for n := range 7 {
		g, frames := impl.FopSend(f, strconv.Itoa(n))
		if n < impl.FopMost {
			want(t, len(frames) == 1 && frames[0].Seq == []int{254, 255, 0, 1}[n], "the frame %d is %v", n, frames)
		} else {
			want(t, len(frames) == 0, "%d are under way", n+1)
		}
		f = g
	}
	want(t, f.Next == 2 && sameTexts(f.Sent, []string{"0", "1", "2", "3"}) && impl.FopFirst(f) == 254, "%v", f)
}

func TestP20FirstGoesRound(t *testing.T) {
	for _, f := range okFops() {
		want(t, impl.FopFirst(f) == mod256(f.Next-len(f.Sent)), "FopFirst(%v) is %d", f, impl.FopFirst(f))
	}
}

func TestP20SendersThatAreNotOk(t *testing.T) {
	for _, f := range badFops() {
		want(t, !impl.FopOk(f), "%v is ok", f)
		g, frames := impl.FopSend(f, "x")
		want(t, sameFop(g, impl.Fop{}) && len(frames) == 0, "FopSend(%v) is %v, %v", f, g, frames)
		g, ok := impl.FopHear(f, impl.Farm{})
		want(t, sameFop(g, impl.Fop{}) && !ok, "FopHear(%v) is %v, %t", f, g, ok)
		f.Shut = true
		want(t, len(impl.FopAgain(f)) == 0, "FopAgain(%v) is %v", f, impl.FopAgain(f))
		want(t, impl.FopFirst(f) == 0, "FopFirst(%v) is %d", f, impl.FopFirst(f))
	}
}

func TestP21WhatWasTakenGoes(t *testing.T) {
	for _, f := range okFops() {
		for next := range 256 {
			for _, shut := range []bool{false, true} {
				g, ok := impl.FopHear(f, impl.Farm{Shut: shut, Again: true, Count: 3, Next: next})
				n := mod256(next - impl.FopFirst(f))
				want(t, ok == (n <= len(f.Sent)), "FopHear(%v, %d) is %t", f, next, ok)
				if !ok {
					want(t, sameFop(g, f), "with false %v becomes %v", f, g)
					continue
				}
				expected := copied(f)
				expected.Sent = expected.Sent[n:]
				expected.Shut = shut
				want(t, sameFop(g, expected), "FopHear(%v, %d) is %v", f, next, g)
				want(t, impl.FopFirst(g) == next, "FopFirst is %d, not %d", impl.FopFirst(g), next)
			}
		}
	}
}

func TestP21AnswersThatAreNotOk(t *testing.T) {
	for _, f := range okFops() {
		for _, x := range badFarms() {
			g, ok := impl.FopHear(f, x)
			want(t, !ok && sameFop(g, f), "FopHear(%v, %v) is %v, %t", f, x, g, ok)
		}
		bad := impl.Farm{Shut: true, Waits: true, Next: impl.FopFirst(f)}
		g, ok := impl.FopHear(f, bad)
		want(t, !ok && sameFop(g, f), "FopHear(%v, %v) is %v, %t", f, bad, g, ok)
		bad = impl.Farm{Next: impl.FopFirst(f) + 256}
		g, ok = impl.FopHear(f, bad)
		want(t, !ok && sameFop(g, f), "FopHear(%v, %v) is %v, %t", f, bad, g, ok)
	}
}

func TestP22AllOnceMore(t *testing.T) {
	for _, f := range okFops() {
		var expected []impl.Frame
		if f.Shut {
			expected = append(expected, impl.FarmOpen(f.Craft, f.Via))
		}
		for i, data := range f.Sent {
			expected = append(expected, impl.Frame{Craft: f.Craft, Via: f.Via, Seq: mod256(f.Next - len(f.Sent) + i), Data: data})
		}
		frames := impl.FopAgain(f)
		want(t, len(frames) == len(expected), "FopAgain(%v) is %v", f, frames)
		for i := range frames {
			want(t, frames[i] == expected[i], "FopAgain(%v) is %v", f, frames)
		}
	}
}

// linkTest is a sender and a craft, with a link that loses between them.
type linkTest struct {
	dice  *rand.Rand
	fop   impl.Fop
	farm  impl.Farm
	loss  int
	taken []string
}

// up lets frames go up, of which some are lost, and those that are heard may find no room.
func (l *linkTest) up(frames []impl.Frame) {
	for _, x := range frames {
		if l.dice.Intn(100) < l.loss {
			continue
		}
		got, ok := impl.FrameGet(impl.CltuRead(impl.CltuPut(impl.FramePut(x))))
		if !ok {
			panic("a frame is not read back")
		}
		f, code := impl.FarmHear(impl.FarmRoom(l.farm), got, l.dice.Intn(100) >= l.loss/2)
		if code == impl.FarmTakes {
			l.taken = append(l.taken, got.Data)
		}
		l.farm = f
	}
}

// down lets the answer go down, unless it is lost.
func (l *linkTest) down() {
	if l.dice.Intn(100) < l.loss {
		return
	}
	x, _ := impl.FarmGet(impl.FarmPut(l.farm))
	l.fop, _ = impl.FopHear(l.fop, x)
}

// round sends what waits, else all once more.
func (l *linkTest) round(wait []string) []string {
	for len(wait) > 0 {
		f, frames := impl.FopSend(l.fop, wait[0])
		if len(frames) == 0 {
			break
		}
		l.fop, wait = f, wait[1:]
		l.up(frames)
	}
	l.down()
	l.up(impl.FopAgain(l.fop))
	l.down()
	return wait
}

func TestP23InOrderEachOnce(t *testing.T) {
	var all []string
	for n := range 12 {
		all = append(all, "text "+strconv.Itoa(n))
	}
	for seed := range 400 {
		for _, loss := range []int{0, 30, 60, 90} {
			start := []int{0, 100, 250, 253, 255}[seed%5]
			l := linkTest{dice: newDice(int64(seed)), loss: loss}
			l.fop = impl.Fop{Craft: 5, Via: 3, Next: start}
			l.farm = impl.Farm{Next: start, Shut: seed%3 == 0}
			wait := all
			for range 10 {
				wait = l.round(wait)
				want(t, len(l.taken) <= 12 && sameTexts(l.taken, all[:len(l.taken)]), "seed %d: taken are %q", seed, l.taken)
			}
			l.loss = 0
			for range 10 {
				wait = l.round(wait)
			}
			want(t, sameTexts(l.taken, all), "seed %d: taken are %q", seed, l.taken)
			want(t, len(wait) == 0 && len(l.fop.Sent) == 0 && l.farm.Next == l.fop.Next, "seed %d: %v and %v", seed, l.fop, l.farm)
		}
	}
}

// roomyFop is a sender whose Sent has room behind, in which the letters z stand.
func roomyFop(under int) (impl.Fop, []string) {
	all := []string{"a", "b", "c", "d", "z", "z", "z", "z"}
	for i := under; i < 4; i++ {
		all[i] = "z"
	}
	return impl.Fop{Craft: 5, Via: 3, Next: 9, Sent: all[:under]}, all
}

// fopCalls are all calls that answer with a sender.
func fopCalls() []func(impl.Fop) impl.Fop {
	return []func(impl.Fop) impl.Fop{
		func(f impl.Fop) impl.Fop { g, _ := impl.FopSend(f, "data"); return g },
		func(f impl.Fop) impl.Fop { g, _ := impl.FopSend(f, ""); return g },
		func(f impl.Fop) impl.Fop { f.Shut = true; g, _ := impl.FopSend(f, "data"); return g },
		func(f impl.Fop) impl.Fop { g, _ := impl.FopHear(f, impl.Farm{Next: impl.FopFirst(f)}); return g },
		func(f impl.Fop) impl.Fop { g, _ := impl.FopHear(f, impl.Farm{Next: f.Next}); return g },
		func(f impl.Fop) impl.Fop { g, _ := impl.FopHear(f, impl.Farm{Next: mod256(f.Next - 1)}); return g },
		func(f impl.Fop) impl.Fop { g, _ := impl.FopHear(f, impl.Farm{Next: 200}); return g },
		func(f impl.Fop) impl.Fop { g, _ := impl.FopHear(f, impl.Farm{Count: 9}); return g },
	}
}

func TestNothingHandedInIsChanged(t *testing.T) {
	for under := range impl.FopMost + 1 {
		for n, call := range fopCalls() {
			f, all := roomyFop(under)
			was := append([]string{}, all...)
			call(f)
			impl.FopAgain(f)
			impl.FopFirst(f)
			impl.FopOk(f)
			want(t, sameTexts(all, was) && len(f.Sent) == under, "call %d changed %q into %q", n, was, all)
		}
	}
}

func TestAnswersShareNoMemory(t *testing.T) {
	for under := range impl.FopMost + 1 {
		for n, call := range fopCalls() {
			f, all := roomyFop(under)
			was := append([]string{}, all...)
			g := call(f)
			sent := append([]string{}, g.Sent...)
			room := g.Sent[:cap(g.Sent)]
			for i := range room {
				room[i] = "written"
			}
			want(t, sameTexts(all, was), "call %d: writing into the answer changed %q into %q", n, was, all)
			g = call(f)
			for i := range all {
				all[i] = "written"
			}
			want(t, sameTexts(g.Sent, sent), "call %d: writing into the argument changed %q into %q", n, sent, g.Sent)
		}
	}
}

func TestNothingIsKeptBetweenCalls(t *testing.T) {
	f := someFop(254, 3, true)
	first := impl.FopAgain(f)
	first[0].Data = "written"
	want(t, reflect.DeepEqual(impl.FopAgain(f)[0], impl.FarmOpen(5, 3)), "FopAgain is %v", impl.FopAgain(f))
	x := impl.CltuPut("ab")
	list, _ := impl.CltuFind(x + x)
	list[0] = "written"
	want(t, list[1] == "abUUUUU", "%q", list)
	list, _ = impl.CltuFind(x + x)
	want(t, sameTexts(list, []string{"abUUUUU", "abUUUUU"}), "%q", list)
}
