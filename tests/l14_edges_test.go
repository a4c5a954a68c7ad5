package tests

import (
	"slices"
	"strings"
	"testing"

	"loop.example/skyway/impl"
)

// badWorlds are worlds made by flying that are not ok, each by one thing.
func badWorlds() []impl.World {
	list := []impl.World{{}}
	change := func(f func(w *impl.World)) {
		w := impl.WorldNew(flying())
		w.Exec.Now = 9
		f(&w)
		list = append(list, w)
	}
	for _, faults := range confFaults() {
		for _, f := range faults {
			change(func(w *impl.World) { f(&w.Conf) })
		}
	}
	for _, e := range badExecs() {
		change(func(w *impl.World) { w.Exec = e })
	}
	for _, f := range badFops() {
		change(func(w *impl.World) {
			// With its own Craft and Via the others' faults are all that is wrong.
			if f.Craft == 0 && f.Via == 0 {
				f.Craft, f.Via = 5, 3
			}
			w.Fop = f
		})
	}
	for _, n := range append(farNumbers(), -1, 4, 6, 1023) {
		change(func(w *impl.World) { w.Fop.Craft = n })
		change(func(w *impl.World) { w.Fop.Via = n })
	}
	for at := range 3 {
		for _, h := range badHears() {
			change(func(w *impl.World) { w.Hears[at] = h })
		}
	}
	for _, count := range []int{0, 1, 2, 4, 8} {
		change(func(w *impl.World) { w.Hears = make([]impl.Hears, count) })
	}
	return append(list, badTraffic()...)
}

// badTraffic are worlds made by flying that are not ok by what is on its way, given, done or heard, each by one thing.
func badTraffic() []impl.World {
	var list []impl.World
	change := func(f func(w *impl.World)) {
		w := impl.WorldNew(flying())
		w.Exec.Now = 9
		f(&w)
		list = append(list, w)
	}
	for _, size := range []int{13, 14, 100} {
		change(func(w *impl.World) { w.Up = make([]impl.Link, size) })
		change(func(w *impl.World) { w.Down = make([]string, size) })
	}
	for _, size := range []int{401, 402, 5000} {
		change(func(w *impl.World) { w.Up = []impl.Link{{}, {Text: strings.Repeat("x", size)}, {}} })
	}
	for _, size := range []int{41, 42, 5000} {
		change(func(w *impl.World) { w.Down = []string{"", strings.Repeat("x", size), ""} })
	}
	for _, size := range []int{0, 22, 23, 53, 5000} {
		change(func(w *impl.World) { w.Wait = []string{"x", strings.Repeat("x", size), "x"} })
	}
	for _, count := range []int{241, 242, 1000} {
		change(func(w *impl.World) { w.Wait = slices.Repeat([]string{"x"}, count) })
	}
	for _, count := range []int{41, 42, 100} {
		change(func(w *impl.World) { w.Given = givenCmds(count) })
	}
	for _, c := range badCmds() {
		change(func(w *impl.World) {
			w.Given = givenCmds(3)
			// With its place as its count the others' faults are all that is wrong.
			if c.Count == 0 {
				c.Count = 1
			}
			w.Given[1] = c
		})
		change(func(w *impl.World) { w.Done = []impl.Got{{}, {Cmd: c}, {}} })
	}
	for _, count := range append(farNumbers(), -1, 0, 2, 3) {
		change(func(w *impl.World) {
			w.Given = givenCmds(3)
			w.Given[1].Count = count
		})
	}
	for _, n := range append(farNumbers(), -1, -2, 4, 10) {
		change(func(w *impl.World) { w.Done = []impl.Got{{Time: 5}, {Time: n}} })
	}
	for _, n := range append(farNumbers(), -2, 2, 3) {
		change(func(w *impl.World) { w.Done = []impl.Got{{Part: -1}, {Part: n}} })
	}
	for _, r := range badReps() {
		change(func(w *impl.World) { w.Reps = []impl.Rep{{}, r, {}} })
	}
	return list
}

// givenCmds are so many commands that are ok, each with its place as its count.
func givenCmds(count int) []impl.Cmd {
	var list []impl.Cmd
	for i := range count {
		list = append(list, impl.Cmd{Count: i})
	}
	return list
}

// allKinds are events of all kinds that may happen in most worlds, and such as may not.
func allKinds() []impl.Event {
	list := events(0, 1, 2, 3, 4, 5, 6, 7, 8, -1)
	return append(list, sending(asks(17, 1, "")), impl.Event{Kind: 5, Num: 9}, impl.Event{Kind: 4, At: 1})
}

func TestP67WorldsThatAreOk(t *testing.T) {
	dice := newDice(163)
	for _, c := range rightConfs() {
		want(t, impl.WorldOk(impl.WorldNew(c)) && impl.WorldOk(someWorld(dice, c)), "a world of %v is not ok", c)
	}
	for _, f := range []func(w *impl.World){
		func(w *impl.World) { w.Up = make([]impl.Link, 12) }, func(w *impl.World) { w.Up = []impl.Link{{Text: strings.Repeat("x", 400)}, {Spoil: true}} },
		func(w *impl.World) { w.Down = make([]string, 12) }, func(w *impl.World) { w.Down = []string{strings.Repeat("x", 40)} },
		func(w *impl.World) { w.Wait = slices.Repeat([]string{"x"}, 240) }, func(w *impl.World) { w.Wait = []string{strings.Repeat("x", 21)} },
		func(w *impl.World) { w.Given = givenCmds(40) }, func(w *impl.World) { w.Given = slices.Clone(edgeCmds()[:1]); w.Given[0].Count = 0 },
		func(w *impl.World) { w.Reps = edgeReps() }, func(w *impl.World) { w.Reps = slices.Repeat(edgeReps(), 300) },
		func(w *impl.World) {
			w.Done = []impl.Got{{Part: -1}, {Part: 1}, {Time: 8}, {Time: 8, Part: -1}, {Time: 9, Late: true, Cmd: edgeCmds()[0]}}
		},
		func(w *impl.World) { w.Done = make([]impl.Got, 3000) },
		func(w *impl.World) {
			w.Fop = impl.Fop{Craft: 5, Via: 3, Next: 255, Shut: true, Sent: slices.Repeat([]string{strings.Repeat("x", 53)}, 4)}
		},
		func(w *impl.World) {
			w.Hears = []impl.Hears{{Next: 255, Open: true, Text: strings.Repeat("x", 106)}, {Open: true}, {Next: 9}}
		},
	} {
		w := impl.WorldNew(flying())
		w.Exec.Now = 9
		f(&w)
		want(t, impl.WorldOk(w), "%v is not ok", w)
		x, can := impl.WorldDo(w, impl.Event{Kind: 9})
		want(t, !can && sameWorld(x, w), "what cannot be changes %v into %v", w, x)
	}
}

func TestP62To73WorldsThatBegin(t *testing.T) {
	for _, c := range append(rightConfs(), flying(), exampleConf()) {
		w := impl.WorldNew(c)
		asked := impl.World{Conf: c, Exec: impl.ExecNew(c), Fop: impl.Fop{Craft: c.Craft, Via: c.Via}, Hears: make([]impl.Hears, len(c.Progs)+1)}
		want(t, sameWorld(w, asked) && impl.WorldOk(w) && impl.WorldStill(w), "WorldNew(%v) is %v", c, w)
		want(t, sameWorld(impl.WorldPlay(c, nil), w) && sameWorld(impl.WorldCalm(w, 0), w), "a play without events is %v", impl.WorldPlay(c, nil))
	}
}

func TestP62To73CraftsThatAreNotRight(t *testing.T) {
	for _, faults := range confFaults() {
		for _, f := range faults {
			c := plainConf()
			f(&c)
			want(t, isNoWorld(impl.WorldNew(c)), "WorldNew(%v) is %v", c, impl.WorldNew(c))
			for _, list := range [][]impl.Event{nil, allKinds(), make([]impl.Event, 301)} {
				want(t, isNoWorld(impl.WorldPlay(c, list)), "WorldPlay(%v, ..) is %v", c, impl.WorldPlay(c, list))
			}
		}
	}
	want(t, isNoWorld(impl.WorldNew(impl.Conf{})), "WorldNew of nothing is %v", impl.WorldNew(impl.Conf{}))
}

func TestP62To73WorldsThatAreNotOk(t *testing.T) {
	for _, w := range badWorlds() {
		want(t, !impl.WorldOk(w) && !impl.WorldSafe(w) && !impl.WorldStill(w) && impl.WorldBoard(w) == "", "%v is ok, safe or still, or has a board", w)
		for _, e := range allKinds() {
			x, can := impl.WorldDo(w, e)
			want(t, !can && isNoWorld(x), "WorldDo(%v, %v) is %v, %t", w, e, x, can)
		}
		for _, rounds := range []int{-1, 0, 1, 9} {
			want(t, isNoWorld(impl.WorldCalm(w, rounds)), "WorldCalm(%v, %d) is %v", w, rounds, impl.WorldCalm(w, rounds))
		}
	}
}

func TestP67CommandsThatAreNotOk(t *testing.T) {
	w := impl.WorldNew(flying())
	for _, c := range badCmds() {
		didNot(t, w, sending(c))
	}
	for _, n := range append(farNumbers(), -1) {
		for at := range 5 {
			c := asks(17, 1, "")
			*[]*int{&c.Apid, &c.Count, &c.Source, &c.Service, &c.Sub}[at] = n
			didNot(t, w, sending(c))
		}
	}
	for at, n := range []int{2048, 16384, 256, 256, 256} {
		c := asks(17, 1, "")
		*[]*int{&c.Apid, &c.Count, &c.Source, &c.Service, &c.Sub}[at] = n
		didNot(t, w, sending(c))
	}
	didNot(t, w, sending(asks(17, 1, strings.Repeat("x", 61))))
	for _, c := range edgeCmds() {
		x := did(t, w, sending(c))
		c.Count = 0
		want(t, slices.Equal(x.Given, []impl.Cmd{c}), "given are %v", x.Given)
	}
}

func TestP67KindsThatThereAreNot(t *testing.T) {
	dice := newDice(164)
	for _, kind := range append(farNumbers(), -2, -1, 0, 8, 9, 256+3, 1<<32+3) {
		c := flying()
		for _, w := range []impl.World{impl.WorldNew(c), did(t, impl.WorldNew(c), sending(asks(17, 1, ""))), someWorld(dice, c)} {
			didNot(t, w, impl.Event{Kind: kind, Cmd: asks(17, 1, "")})
		}
	}
}

func TestP67SendingInPartsAndInOne(t *testing.T) {
	w := impl.WorldNew(flying())
	for _, k := range []struct{ data, parts int }{{0, 1}, {8, 1}, {9, 2}, {28, 2}, {29, 3}, {48, 3}, {49, 4}, {60, 4}} {
		cmd := asks(17, 1, strings.Repeat("d", k.data))
		x := did(t, w, sending(cmd))
		cmd.Count = 0
		parts := impl.SegCut(impl.CmdPut(cmd), 3)
		want(t, len(parts) == k.parts && sameTexts(x.Fop.Sent, parts) && len(x.Wait) == 0 && x.Fop.Next == k.parts, "of %d bytes %v are sent", k.data, x.Fop)
		for i, part := range parts {
			want(t, x.Up[i] == impl.Link{Text: upOf(w.Conf, i, part)}, "on its way is %v", x.Up[i])
		}
		x = did(t, x, events(slices.Repeat([]int{3}, k.parts)...)...)
		want(t, x.Exec.Farm.Next == k.parts && len(x.Up) == 0 && len(x.Down) == k.parts && !x.Exec.Join.Open, "the craft is %v", x.Exec)
	}
}

func TestP67CountsAreThePlaces(t *testing.T) {
	w := impl.WorldNew(flying())
	for i := range 40 {
		cmd := asks(17, 1, "")
		cmd.Count = []int{0, 1, 16383, i}[i%4]
		w = did(t, w, sending(cmd))
		cmd.Count = i
		want(t, len(w.Given) == i+1 && w.Given[i] == cmd, "given are %v", w.Given)
		want(t, len(w.Fop.Sent) == min(i+1, 4) && len(w.Up) == min(i+1, 4) && len(w.Wait) == max(0, i-3), "behind %d: %v", i+1, w)
	}
	didNot(t, w, sending(asks(17, 1, "")))
	w = impl.WorldCalm(w, 2)
	want(t, impl.WorldStill(w) && len(w.Done) == 40, "done are %v", w.Done)
	didNot(t, w, sending(asks(17, 1, "")))
}

func TestP67NoRoomToWait(t *testing.T) {
	for _, k := range []struct {
		wait, sent int
		shut, can  bool
	}{
		{236, 4, false, true}, {237, 4, false, false}, {240, 4, false, false}, {237, 3, false, true}, {240, 0, false, true}, {240, 1, false, false}, {239, 1, false, true},
		{236, 0, true, true}, {237, 0, true, false}, {240, 0, true, false},
	} {
		w := impl.WorldNew(flying())
		w.Wait = slices.Repeat([]string{"x"}, k.wait)
		w.Fop.Sent, w.Fop.Shut = slices.Repeat([]string{"y"}, k.sent), k.shut
		x, can := impl.WorldDo(w, sending(longCmd(9)))
		want(t, can == k.can && impl.WorldOk(x) && (can || sameWorld(x, w)), "with %d that wait and %d under way it is %t: %v", k.wait, k.sent, can, x)
	}
}

func TestP67LinksThatAreFull(t *testing.T) {
	c := flying()
	for up := 8; up <= 12; up++ {
		w := impl.WorldNew(c)
		w.Up = make([]impl.Link, up)
		w = did(t, w, sending(longCmd(500)))
		want(t, len(w.Up) == min(12, up+4) && len(w.Fop.Sent) == 4 && len(w.Wait) == 0 && w.Fop.Next == 4, "with %d up: %v", up, w)
		for i := up; i < len(w.Up); i++ {
			want(t, w.Up[i] == impl.Link{Text: upOf(c, i-up, w.Fop.Sent[i-up])}, "on its way is %v", w.Up[i])
		}
		x := did(t, w, impl.Event{Kind: impl.WorldAgain})
		want(t, slices.Equal(x.Up[:len(w.Up)], w.Up) && len(x.Up) == 12 && sameFop(x.Fop, w.Fop), "once more with %d up: %v", up, x)
		x = impl.WorldCalm(x, 1)
		want(t, impl.WorldStill(x) && len(x.Done) == 1, "in a calm it becomes %v", x)
	}
	for down := 10; down <= 12; down++ {
		w := did(t, impl.WorldNew(c), sending(asks(17, 1, "")))
		w.Down = make([]string, down)
		if down == 12 {
			didNot(t, w, impl.Event{Kind: impl.WorldTick})
			continue
		}
		x := did(t, w, impl.Event{Kind: impl.WorldTick})
		want(t, len(x.Down) == down+1 && len(x.Done) == 1 && len(x.Up) == 0 && len(x.Down[down]) == 40, "with %d down: %v", down, x)
	}
}

func TestP67FramesUnderWay(t *testing.T) {
	w := impl.WorldNew(flying())
	didNot(t, w, impl.Event{Kind: impl.WorldAgain})
	for n := range 5 {
		if n > 0 {
			w = did(t, w, sending(asks(17, 1, "")))
		}
		if n == 0 {
			continue
		}
		x := did(t, w, impl.Event{Kind: impl.WorldAgain})
		want(t, len(x.Fop.Sent) == n && slices.Equal(x.Up, append(slices.Clone(w.Up), w.Up...)), "with %d under way it sends %v", n, x.Up)
	}
	w = did(t, w, sending(asks(17, 1, "")))
	want(t, len(w.Fop.Sent) == 4 && len(w.Up) == 4 && len(w.Wait) == 1, "one more makes %v", w)
	w = did(t, w, events(3, 6)...)
	want(t, len(w.Fop.Sent) == 4 && len(w.Up) == 4 && len(w.Wait) == 0 && impl.FopFirst(w.Fop) == 1, "one that is heard of makes %v", w)
}

func TestP67PlacesOfWhatIsLost(t *testing.T) {
	w := did(t, impl.WorldNew(flying()), sending(longCmd(500)))
	for _, at := range append(farNumbers(), -1, 4, 5, 12) {
		didNot(t, w, impl.Event{Kind: impl.WorldLose, At: at})
		didNot(t, w, impl.Event{Kind: impl.WorldSpoil, At: at})
	}
	for at := range 4 {
		x := did(t, w, impl.Event{Kind: impl.WorldLose, At: at, Num: -1})
		left := slices.Delete(slices.Clone(w.Up), at, at+1)
		want(t, slices.Equal(x.Up, left) && sameFop(x.Fop, w.Fop), "without the one at %d there are %v", at, x.Up)
		y := did(t, w, impl.Event{Kind: impl.WorldSpoil, At: at})
		up := slices.Clone(w.Up)
		up[at] = impl.Link{Text: turned(up[at].Text, 0, 1), Spoil: true}
		want(t, slices.Equal(y.Up, up), "with the one at %d spoilt there are %v", at, y.Up)
		didNot(t, y, impl.Event{Kind: impl.WorldSpoil, At: at, Num: 5})
	}
	empty := impl.WorldNew(flying())
	for _, at := range []int{-1, 0, 1} {
		didNot(t, empty, impl.Event{Kind: impl.WorldLose, At: at})
		didNot(t, empty, impl.Event{Kind: impl.WorldSpoil, At: at})
	}
}

func TestP67HowATextIsSpoilt(t *testing.T) {
	for _, size := range []int{1, 2, 34, 82, 255, 256, 400} {
		text := someText(newDice(165), size)
		w := impl.WorldNew(flying())
		w.Up = []impl.Link{{Text: "abc"}, {Text: text}, {Text: "xyz", Spoil: true}, {}}
		for _, k := range []struct{ num, at, mask int }{
			{0, 0, 1}, {1, 1, 1}, {size, size, 1}, {4095, 4095, 1}, {4096, 0, 2}, {4097, 1, 2}, {2*4096 - 1, 4095, 2}, {126 * 4096, 0, 127}, {127 * 4096, 0, 1}, {127*4096 + 9, 9, 1}, {128 * 4096, 0, 2},
			{1<<62 + 5, 5, 1 + 1<<50%127}, {1<<63 - 1, 4095, 1 + (1<<51-1)%127},
		} {
			x := did(t, w, impl.Event{Kind: impl.WorldSpoil, At: 1, Num: k.num})
			want(t, x.Up[1] == impl.Link{Text: turned(text, k.at%size, k.mask), Spoil: true}, "by %d %q becomes %v", k.num, text, x.Up[1])
			x.Up[1] = w.Up[1]
			want(t, sameWorld(x, w), "by %d all else becomes %v", k.num, x)
		}
		for _, num := range []int{-1, -2, -4096, -1 << 40, -1 << 63} {
			didNot(t, w, impl.Event{Kind: impl.WorldSpoil, At: 1, Num: num})
		}
		for _, num := range []int{0, 9, 4096} {
			didNot(t, w, impl.Event{Kind: impl.WorldSpoil, At: 2, Num: num})
			didNot(t, w, impl.Event{Kind: impl.WorldSpoil, At: 3, Num: num})
		}
	}
}

func TestP67AnEmptyTextComesUp(t *testing.T) {
	w := impl.WorldNew(flying())
	w.Up = []impl.Link{{}, {Text: "x"}}
	x := did(t, w, impl.Event{Kind: impl.WorldTick})
	e, down, _ := impl.ExecTick(w.Conf, w.Exec, "")
	want(t, sameExec(x.Exec, e) && sameTexts(x.Down, []string{down}) && slices.Equal(x.Up, w.Up[1:]), "an empty text makes %v", x)
	x = did(t, impl.WorldNew(flying()), impl.Event{Kind: impl.WorldTick})
	want(t, sameExec(x.Exec, e) && sameTexts(x.Down, []string{down}), "none makes %v", x)
}

func TestP67TheLastTicks(t *testing.T) {
	w := did(t, impl.WorldNew(flying()), sending(asks(17, 1, "")), sending(asks(17, 1, "")))
	w.Exec.Now = 99998
	w = did(t, w, impl.Event{Kind: impl.WorldTick})
	want(t, w.Exec.Now == 99999 && len(w.Done) == 1 && w.Done[0].Time == 99999 && len(w.Up) == 1 && len(w.Down) == 1, "the last tick makes %v", w)
	didNot(t, w, impl.Event{Kind: impl.WorldTick})
	w = did(t, w, impl.Event{Kind: impl.WorldHear}, impl.Event{Kind: impl.WorldAgain}, impl.Event{Kind: impl.WorldLose})
	w.Up = nil
	didNot(t, w, impl.Event{Kind: impl.WorldTick})
}

func TestP67WhatIsDownIsHeardOrMissed(t *testing.T) {
	w := impl.WorldNew(flying())
	didNot(t, w, impl.Event{Kind: impl.WorldHear})
	didNot(t, w, impl.Event{Kind: impl.WorldMiss})
	w = did(t, w, sending(asks(17, 1, "")), impl.Event{Kind: impl.WorldTick}, impl.Event{Kind: impl.WorldTick})
	x := did(t, w, impl.Event{Kind: impl.WorldMiss})
	want(t, sameTexts(x.Down, w.Down[1:]) && slices.Equal(x.Hears, w.Hears) && len(x.Reps) == 0 && len(x.Fop.Sent) == 1, "missed: %v", x)
	x = did(t, w, impl.Event{Kind: impl.WorldHear})
	want(t, sameTexts(x.Down, w.Down[1:]) && x.Hears[0].Next == 1 && x.Hears[0].Open && len(x.Reps) == 1 && len(x.Fop.Sent) == 0, "heard: %v", x)
	want(t, x.Reps[0] == impl.Rep{Service: 17, Sub: 2, Time: 1}, "heard are %v", x.Reps)
}

func TestP67FramesDownOfOthers(t *testing.T) {
	w := did(t, impl.WorldNew(flying()), sending(longCmd(500)), sending(asks(17, 1, "")))
	_, data, first := impl.QueueFill(impl.Queue{Packs: []string{impl.RepPut(impl.Rep{Service: 17, Sub: 2})}})
	good := impl.Down{Craft: 5, Who: 2, First: first, Data: data, Farm: impl.FarmPut(impl.Farm{Next: 1})}
	for who := range 8 {
		d := good
		d.Who = who
		w.Down = []string{impl.DownPut(d), "x"}
		x := did(t, w, impl.Event{Kind: impl.WorldHear})
		if who < 3 {
			want(t, len(x.Reps) == 1 && len(x.Wait) == 0 && len(x.Up) == 5 && x.Hears[who].Next == 1 && impl.FopFirst(x.Fop) == 1, "of %d is heard %v", who, x)
			continue
		}
		w.Down = w.Down[1:]
		want(t, sameWorld(x, w), "of %d is heard %v", who, x)
	}
	craft := good
	craft.Craft = 4
	text := impl.DownPut(good)
	for _, down := range []string{impl.DownPut(craft), "", "x", turned(text, 20, 1), text[:39], strings.Repeat("\x55", 40)} {
		w.Down = []string{down, "x"}
		x := did(t, w, impl.Event{Kind: impl.WorldHear})
		w.Down = w.Down[1:]
		want(t, sameWorld(x, w), "of %q is heard %v", down, x)
	}
}

func TestP67WhatIsHeardThatCannotBe(t *testing.T) {
	w := did(t, impl.WorldNew(flying()), sending(asks(17, 1, "")), sending(asks(17, 1, "")))
	w.Wait = []string{"x"}
	for next, sent := range map[int]int{0: 3, 1: 2, 2: 1, 3: 3, 100: 3, 255: 3} {
		for _, shut := range []bool{false, true} {
			_, data, first := impl.QueueFill(impl.Queue{})
			w.Down = []string{impl.DownPut(impl.Down{Craft: 5, First: first, Data: data, Farm: impl.FarmPut(impl.Farm{Next: next, Shut: shut})})}
			x := did(t, w, impl.Event{Kind: impl.WorldHear})
			if shut && next <= 2 {
				want(t, x.Fop.Shut && len(x.Fop.Sent) == sent-1 && len(x.Wait) == 1 && len(x.Up) == 2, "shut with the next %d: %v", next, x)
				continue
			}
			want(t, !x.Fop.Shut && len(x.Fop.Sent) == sent && len(x.Wait) == 0 && len(x.Up) == 3, "with the next %d: %v", next, x)
		}
	}
}

func TestP66PacketsThatAreNoTellings(t *testing.T) {
	w := impl.WorldNew(flying())
	none := plainPacket(false, 7, 3, "\x20\x01\x01")
	packs := []string{none, impl.RepPut(impl.Rep{Apid: 7, Count: 4})}
	_, data, first := impl.QueueFill(impl.Queue{Packs: packs})
	w.Down = []string{impl.DownPut(impl.Down{Craft: 5, First: first, Data: data, Farm: impl.FarmPut(impl.Farm{})})}
	x := did(t, w, impl.Event{Kind: impl.WorldHear})
	want(t, slices.Equal(x.Reps, []impl.Rep{{Apid: 7, Count: 4}}), "heard are %v", x.Reps)
}

func TestP66MissedFramesLeaveNoPieces(t *testing.T) {
	c := flying()
	w := impl.WorldNew(c)
	for range 6 {
		w = did(t, w, sending(asks(17, 1, "")))
	}
	w = did(t, w, events(3, 6, 3, 6, 3, 6, 3, 6, 3, 6, 3, 6)...)
	all := impl.WorldCalm(w, 2)
	missed := impl.WorldCalm(did(t, w, events(3, 7, 3, 7)...), 2)
	want(t, len(all.Reps) > len(missed.Reps) && len(missed.Reps) > 0, "of %d %d are heard", len(all.Reps), len(missed.Reps))
	rest := all.Reps
	for _, r := range missed.Reps {
		at := slices.Index(rest, r)
		want(t, at >= 0, "%v was not told, or not in that order: %v", r, all.Reps)
		rest = rest[at+1:]
	}
}

func TestP63AFrameTooFarShutsTillItIsOpened(t *testing.T) {
	c := flying()
	for _, seq := range []int{8, 9, 128, 247} {
		w := impl.WorldNew(c)
		w.Up = []impl.Link{{Text: upOf(c, seq, "x")}}
		w = did(t, w, sending(asks(17, 1, "")), impl.Event{Kind: impl.WorldTick})
		want(t, w.Exec.Farm == impl.Farm{Shut: true} && len(w.Done) == 0 && !w.Fop.Shut, "half the way round: %v", w)
		w = did(t, w, events(6, 3, 6)...)
		want(t, w.Exec.Farm == impl.Farm{Shut: true} && len(w.Done) == 0 && w.Fop.Shut && len(w.Fop.Sent) == 1, "shut: %v", w)
		w = did(t, w, sending(asks(17, 1, "")))
		want(t, len(w.Wait) == 1 && len(w.Up) == 0 && len(w.Given) == 2, "sent while it is shut: %v", w)
		calm := impl.WorldCalm(w, 1)
		w = did(t, w, impl.Event{Kind: impl.WorldAgain})
		want(t, len(w.Up) == 2 && w.Up[0].Text == impl.CltuPut(impl.FramePut(impl.FarmOpen(5, 3))) && w.Fop.Shut, "once more: %v", w)
		w = did(t, w, impl.Event{Kind: impl.WorldTick})
		want(t, w.Exec.Farm == impl.Farm{Count: 1} && w.Fop.Shut, "opened: %v", w)
		w = did(t, w, impl.Event{Kind: impl.WorldHear})
		want(t, !w.Fop.Shut && len(w.Fop.Sent) == 2 && len(w.Wait) == 0 && len(w.Up) == 2, "heard of: %v", w)
		w = did(t, w, events(3, 6, 3, 6)...)
		want(t, len(w.Done) == 2 && impl.WorldStill(w) && impl.WorldSafe(w), "done are %v", w.Done)
		want(t, len(calm.Done) == 2 && impl.WorldStill(calm) && impl.WorldSafe(calm), "in a calm done are %v", calm.Done)
	}
	w := impl.WorldNew(c)
	w.Fop.Shut = true
	w = did(t, w, impl.Event{Kind: impl.WorldAgain})
	want(t, len(w.Up) == 1 && w.Up[0].Text == impl.CltuPut(impl.FramePut(impl.FarmOpen(5, 3))), "with nothing under way it sends %v", w.Up)
}

func TestP69AsManyEventsAsMayBe(t *testing.T) {
	c := flying()
	list := slices.Concat(slices.Repeat(events(3, 6), 149), []impl.Event{sending(asks(17, 1, "")), {Kind: 3}})
	w := impl.WorldPlay(c, list)
	want(t, len(list) == 300 && w.Exec.Now == 150 && len(w.Done) == 1, "300 events make %v", w)
	w = impl.WorldPlay(c, append(list, impl.Event{Kind: 6}))
	want(t, sameWorld(w, impl.WorldNew(c)), "301 events make %v", w)
	w = impl.WorldPlay(c, list[:299])
	want(t, w.Exec.Now == 149 && len(w.Given) == 1, "299 events make %v", w)
}

func TestP69WhatCannotBeIsLeftOut(t *testing.T) {
	c := flying()
	list := []impl.Event{{}, {Kind: 2}, {Kind: 4}, {Kind: 5}, {Kind: 6}, {Kind: 7}, {Kind: 8}, sending(impl.Cmd{Apid: -1}), sending(asks(17, 1, "")), {Kind: -1}, {Kind: 5, Num: -1}, {Kind: 3}, {Kind: 3}}
	w := impl.WorldPlay(c, list)
	want(t, sameWorld(w, impl.WorldPlay(c, []impl.Event{sending(asks(17, 1, "")), {Kind: 3}, {Kind: 3}})), "it becomes %v", w)
	want(t, len(w.Done) == 1 && w.Exec.Now == 2, "it becomes %v", w)
}

func TestP71StillJustAsAsked(t *testing.T) {
	for i, f := range []func(w *impl.World){
		func(w *impl.World) {}, func(w *impl.World) { w.Down = []string{"x"} }, func(w *impl.World) { w.Fop.Shut = true }, func(w *impl.World) { w.Given = givenCmds(3) },
		func(w *impl.World) { w.Exec.Plan = planAt(5) }, func(w *impl.World) { w.Exec.Join.Open = true }, func(w *impl.World) { w.Hears[1].Open = true },
		func(w *impl.World) { w.Wait = []string{"x"} }, func(w *impl.World) { w.Fop.Sent = []string{"x"} }, func(w *impl.World) { w.Up = []impl.Link{{}} },
	} {
		w := impl.WorldNew(flying())
		f(&w)
		want(t, impl.WorldOk(w) && impl.WorldStill(w) == (i < 7), "%d: still is %t", i, impl.WorldStill(w))
	}
}

func TestP62To73NumbersFarOff(t *testing.T) {
	dice := newDice(166)
	for _, n := range farNumbers() {
		w := someWorld(dice, flying())
		for kind := range 9 {
			x, can := impl.WorldDo(w, impl.Event{Kind: kind, At: n, Num: n, Cmd: asks(17, 1, "")})
			asked, could := plainWorldDo(w, impl.Event{Kind: kind, At: n, Num: n, Cmd: asks(17, 1, "")})
			want(t, can == could && sameWorld(x, asked), "the kind %d with %d is %t, %v", kind, n, can, x)
		}
		want(t, sameWorld(impl.WorldCalm(w, n), plainCalm(w, n)), "%d rounds are %v", n, impl.WorldCalm(w, n))
	}
}
