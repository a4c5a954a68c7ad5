package tests

import (
	"slices"
	"strings"
	"testing"

	"loop.example/skyway/impl"
)

// exampleConf is the craft of the document's example.
func exampleConf() impl.Conf {
	return impl.Conf{
		Craft: 5, Via: 3,
		Progs:   [][]impl.Op{{{Do: impl.OpTake}, {Do: impl.OpTell}, {Do: impl.OpRest}}},
		Apids:   []int{7},
		Budgets: []int{9},
		Plain:   []int{0},
		Safe:    []int{-1},
		Down:    []int{0, 1},
		Rules:   []impl.Rule{{Source: 1, Apid: 7, Service: 8, Sub: 1, Plain: true}, {Source: 1, Apid: 0, Service: 8, Sub: 1, Plain: true}},
		Limit:   50,
	}
}

// events are things that happen, by their kinds alone.
func events(kinds ...int) []impl.Event {
	var list []impl.Event
	for _, kind := range kinds {
		list = append(list, impl.Event{Kind: kind})
	}
	return list
}

// sending is the event by which a command is sent.
func sending(c impl.Cmd) impl.Event {
	return impl.Event{Kind: impl.WorldSend, Cmd: c}
}

// did is a world behind things all of which must be able to happen.
func did(t *testing.T, w impl.World, list ...impl.Event) impl.World {
	t.Helper()
	for i, e := range list {
		x, can := impl.WorldDo(w, e)
		want(t, can, "the event %d, %v, cannot be in %v", i, e, w)
		w = x
	}
	return w
}

// didNot holds something to be impossible, and to leave the world as it is.
func didNot(t *testing.T, w impl.World, e impl.Event) {
	t.Helper()
	x, can := impl.WorldDo(w, e)
	want(t, !can && sameWorld(x, w), "%v in %v is %t, %v", e, w, can, x)
}

// longCmd is a command of the source 1 in four parts, by which nothing but a text is put to wait.
func longCmd(time int) impl.Cmd {
	return asks(11, 4, fourBytes(time)+strings.Repeat("d", 56))
}

func TestP72TheExample(t *testing.T) {
	list := []impl.Event{sending(sends(7, "\x00\x09"))}
	list = append(list, events(3, 6)...)
	list = append(list, sending(asks(8, 1, "")))
	list = append(list, events(3, 6, 3, 6, 3, 6, 3, 6)...)
	w := impl.WorldPlay(exampleConf(), list)
	board := `craft 5 at 5, safe, turn 0, next 2, 0 planned
part 0 at 0 9 0 0 0 0 0 0 0
ground: 2 given, 0 wait, 0 sent, 0 up, 0 down
done 1 by 0: 7/0 8.1
done 2 by -1: 0/1 8.1
told 1: 0/0 1.1, 4 bytes
told 1: 7/0 3.25, 2 bytes
told 2: 0/1 1.1, 4 bytes
`
	want(t, impl.WorldBoard(w) == board, "the board is %s", impl.WorldBoard(w))
	want(t, impl.WorldSafe(w) && impl.WorldStill(w), "safe is %t, still %t", impl.WorldSafe(w), impl.WorldStill(w))
}

func TestP72BoardsOfAllKinds(t *testing.T) {
	c := flying()
	w := impl.WorldNew(c)
	board := "craft 5 at 0, plain, turn 0, next 0, 0 planned\npart 0 at 0 0 0 0 0 0 0 0 0\npart 1 at 0 0 0 0 0 0 0 0 0\nground: 0 given, 0 wait, 0 sent, 0 up, 0 down\n"
	want(t, impl.WorldBoard(w) == board, "at first the board is %s", impl.WorldBoard(w))
	w = impl.World{Conf: c, Exec: w.Exec, Fop: impl.Fop{Craft: 5, Via: 3, Next: 7, Sent: []string{"a", "b", "c"}}, Hears: make([]impl.Hears, 3)}
	w.Exec.Now, w.Exec.Mode, w.Exec.Turn, w.Exec.Farm.Next, w.Exec.Plan = 99999, impl.ModeSafe, 2, 255, planAt(1, 2, 3)
	w.Exec.Parts[1] = impl.Part{Prog: c.Progs[1], Cells: []int{9999, 1, 2, 3, 4, 5, 6, 10}, At: 1, Fails: true, Box: []int{5}}
	w.Wait, w.Up, w.Down = []string{"x", "y"}, make([]impl.Link, 12), []string{"", "", "", "", ""}
	w.Given = []impl.Cmd{{}}
	w.Done = []impl.Got{{Time: 0, Part: 1, Late: true, Cmd: impl.Cmd{Apid: 2047, Count: 16383, Source: 9, Service: 255, Sub: 0, Data: "x"}}, {Time: 99999, Part: -1}}
	w.Reps = []impl.Rep{{Apid: 2046, Count: 16383, Service: 3, Sub: 255, Time: 99999, Data: strings.Repeat("d", 60)}, {}}
	board = `craft 5 at 99999, safe, turn 2, next 255, 3 planned
part 0 at 0 0 0 0 0 0 0 0 0
part 1 at 1 failed 9999 1 2 3 4 5 6 10
ground: 1 given, 2 wait, 3 sent, 12 up, 5 down
done 0 by 1: 2047/16383 255.0
done 99999 by -1: 0/0 0.0
told 99999: 2046/16383 3.255, 60 bytes
told 0: 0/0 0.0, 0 bytes
`
	want(t, impl.WorldBoard(w) == board, "the board is %s", impl.WorldBoard(w))
	w.Exec.Mode = impl.ModePlain
	want(t, impl.WorldBoard(w) == strings.Replace(board, "safe", "plain", 1), "in plain mode the board is %s", impl.WorldBoard(w))
}

func TestP72ALineForEach(t *testing.T) {
	dice := newDice(150)
	for range 200 {
		c := someSteady(dice)
		for _, w := range []impl.World{impl.WorldPlay(c, someEvents(dice, c, dice.Intn(301))), someWorld(dice, c)} {
			board := impl.WorldBoard(w)
			want(t, board == plainBoard(w), "the board of %v is %s", w, board)
			lines := strings.Split(board, "\n")
			want(t, len(lines) == 2+len(c.Progs)+len(w.Done)+len(w.Reps)+1 && lines[len(lines)-1] == "", "the board has %d lines: %s", len(lines), board)
			starts := []string{"craft "}
			for range c.Progs {
				starts = append(starts, "part ")
			}
			starts = append(starts, "ground: ")
			for range w.Done {
				starts = append(starts, "done ")
			}
			for range w.Reps {
				starts = append(starts, "told ")
			}
			for i, start := range starts {
				want(t, strings.HasPrefix(lines[i], start), "the line %d is %q, not %q", i+1, lines[i], start)
			}
		}
	}
}

func TestP62SafeBehindAllThatMayHappen(t *testing.T) {
	dice := newDice(151)
	done, late := 0, 0
	for range 150 {
		c := someSteady(dice)
		w := impl.WorldNew(c)
		for _, e := range someEvents(dice, c, 300) {
			was := len(w.Done)
			w, _ = impl.WorldDo(w, e)
			want(t, len(w.Done) == was || impl.WorldSafe(w), "behind %v it is not safe: %v", e, w)
		}
		want(t, impl.WorldSafe(w), "it is not safe: %v", w)
		for _, got := range w.Done {
			done++
			if got.Late {
				late++
			}
		}
	}
	want(t, done > 700 && late > 60, "only %d were done, %d of them late", done, late)
}

func TestP62SafeJustAsAsked(t *testing.T) {
	dice := newDice(152)
	seen := map[bool]int{}
	for range 600 {
		c := someSteady(dice)
		played := impl.WorldPlay(c, someEvents(dice, c, 200))
		for range 4 {
			w := cloneWorld(played)
			if n := len(w.Done); n > 0 {
				got := &w.Done[dice.Intn(n)]
				switch dice.Intn(8) {
				case 0:
					got.Late = !got.Late
				case 1:
					got.Cmd.Count = dice.Intn(40)
				case 2:
					other := w.Done[dice.Intn(n)]
					got.Cmd = other.Cmd
				case 3:
					got.Cmd.Source ^= 1
				case 4:
					w.Conf.Rules = w.Conf.Rules[:max(0, len(w.Conf.Rules)-1)]
				case 5:
					w.Done = append(w.Done, w.Done[n-1])
				}
			}
			want(t, impl.WorldSafe(w) == plainSafe(w), "WorldSafe(%v) is %t", w, impl.WorldSafe(w))
			seen[impl.WorldSafe(w)]++
		}
	}
	want(t, seen[true] > 400 && seen[false] > 400, "safe or not: %v", seen)
}

func TestP62WhatIsNotSafe(t *testing.T) {
	c := flying()
	late := sends(8, "\x00\x02")
	put := asks(11, 4, fourBytes(3)+impl.CmdPut(late))
	test, value := asks(17, 1, ""), sends(7, "\x00\x01")
	given := []impl.Cmd{put, test, value}
	for i := range given {
		given[i].Count = i
	}
	put, test, value = given[0], given[1], given[2]
	other := test
	other.Count = 2
	twice := asks(11, 4, fourBytes(3)+impl.CmdPut(put))
	twice.Count = 0
	for i, k := range []struct {
		done []impl.Got
		safe bool
	}{
		{nil, true},
		{[]impl.Got{{Cmd: put}, {Cmd: test}, {Cmd: value}}, true},
		{[]impl.Got{{Cmd: put}, {Cmd: value}}, true}, {[]impl.Got{{Cmd: value}}, true}, {[]impl.Got{{Cmd: test}, {Cmd: value}}, true},
		{[]impl.Got{{Cmd: test}, {Cmd: put}}, false}, {[]impl.Got{{Cmd: put}, {Cmd: value}, {Cmd: test}}, false}, {[]impl.Got{{Cmd: value}, {Cmd: put}}, false},
		{[]impl.Got{{Cmd: put}, {Cmd: put}}, false}, {[]impl.Got{{Cmd: put}, {Cmd: test}, {Cmd: test}}, false}, {[]impl.Got{{Cmd: value}, {Cmd: value}}, false},
		{[]impl.Got{{Cmd: other}}, false}, {[]impl.Got{{Cmd: late}}, false},
		{[]impl.Got{{Cmd: put}, {Cmd: late, Late: true}}, true}, {[]impl.Got{{Cmd: put}, {Cmd: late, Late: true}, {Cmd: test}, {Cmd: value}}, true},
		{[]impl.Got{{Cmd: put}, {Cmd: test}, {Cmd: late, Late: true}, {Cmd: late, Late: true}}, true},
		{[]impl.Got{{Cmd: late, Late: true}, {Cmd: put}}, false}, {[]impl.Got{{Cmd: late, Late: true}}, false}, {[]impl.Got{{Cmd: test}, {Cmd: late, Late: true}}, false},
		{[]impl.Got{{Cmd: put}, {Cmd: late}}, false}, {[]impl.Got{{Cmd: put}, {Cmd: test, Late: true}}, false}, {[]impl.Got{{Cmd: put, Late: true}, {Cmd: late, Late: true}}, false},
		{[]impl.Got{{Cmd: twice}, {Cmd: late, Late: true}}, false}, {[]impl.Got{{Cmd: put}, {Cmd: late, Late: true}, {Cmd: put}}, false},
	} {
		w := impl.WorldNew(c)
		w.Given, w.Done = given, k.done
		want(t, impl.WorldOk(w) && impl.WorldSafe(w) == k.safe, "%d: ok is %t, safe %t", i, impl.WorldOk(w), impl.WorldSafe(w))
	}
}

func TestP62EachThingThatPutsACommandToWait(t *testing.T) {
	inner := impl.CmdPut(asks(17, 1, ""))
	for n, put := range []impl.Cmd{
		asks(11, 4, "\xff\xff\xff\xff"+inner), asks(11, 4, fourBytes(0)+inner),
		{Apid: 7, Source: 1, Service: 11, Sub: 4, Data: fourBytes(3) + inner}, asks(12, 4, fourBytes(3)+inner), asks(11, 5, fourBytes(3)+inner),
		asks(11, 4, inner), asks(11, 4, fourBytes(3)+inner+"x"), asks(11, 4, fourBytes(3)+inner[1:]), asks(11, 4, "x"+fourBytes(3)+inner), asks(11, 4, ""), asks(11, 4, "xxx"), asks(11, 4, "xxxx"),
	} {
		c := flying()
		c.Rules = []impl.Rule{{Source: 1, Apid: put.Apid, Service: put.Service, Sub: put.Sub, Safe: true}, {Source: 1, Service: 17, Sub: 1, Plain: true}}
		w := impl.WorldNew(c)
		put.Count = 0
		w.Given = []impl.Cmd{put}
		w.Done = []impl.Got{{Cmd: put}, {Late: true, Cmd: asks(17, 1, "")}}
		want(t, impl.WorldOk(w) && impl.WorldSafe(w) == (n < 2), "behind %v safe is %t", put, impl.WorldSafe(w))
	}
}

func TestP62LetInSomeMode(t *testing.T) {
	for n := range 4 {
		c := letting(impl.Rule{Source: 1, Service: 17, Sub: 1, Plain: n&1 == 1, Safe: n>>1 == 1})
		for mode := range 2 {
			w := impl.WorldNew(c)
			w.Exec.Mode = mode
			w.Given = []impl.Cmd{{Source: 1, Service: 17, Sub: 1}}
			w.Done = []impl.Got{{Part: -1, Cmd: w.Given[0]}}
			want(t, impl.WorldSafe(w) == (n > 0), "with %v safe is %t", c.Rules, impl.WorldSafe(w))
		}
	}
}

func TestP63InACalmAllComesUp(t *testing.T) {
	dice := newDice(153)
	for range 80 {
		c := someSteady(dice)
		w := impl.WorldCalm(impl.WorldPlay(c, someEvents(dice, c, 300)), 7)
		want(t, impl.WorldStill(w) && impl.WorldSafe(w), "still is %t, safe %t: %v", impl.WorldStill(w), impl.WorldSafe(w), w)
		want(t, w.Exec.Farm.Next == w.Fop.Next && !w.Exec.Join.Open && len(w.Down) == 0, "the next are %d and %d, %v is begun", w.Exec.Farm.Next, w.Fop.Next, w.Exec.Join)
	}
}

func TestP63AllThatMayBeSentComesUp(t *testing.T) {
	for _, lost := range []bool{false, true} {
		var list []impl.Event
		for range 40 {
			list = append(list, sending(longCmd(500)))
		}
		if lost {
			list = append(list, events(4, 4, 4, 4, 2, 2, 2, 2, 3, 3, 3, 4, 7, 7, 3, 3, 3, 3, 3, 3, 3, 3, 3, 7, 7, 7, 7, 7, 7)...)
		}
		w := impl.WorldPlay(flying(), list)
		want(t, len(w.Given) == 40 && len(w.Wait) >= 150, "%d are given, %d wait", len(w.Given), len(w.Wait))
		w = impl.WorldCalm(w, 7)
		want(t, impl.WorldStill(w) && impl.WorldSafe(w) && w.Exec.Farm.Next == 160 && w.Fop.Next == 160 && !w.Exec.Join.Open, "it becomes %v", w)
		want(t, len(w.Done) == 6 && len(w.Exec.Plan.Items) == 6, "done are %v", w.Done)
	}
}

func TestP63NumbersGoRound(t *testing.T) {
	c := flying()
	w := impl.WorldNew(c)
	w.Exec.Farm.Next, w.Fop.Next = 254, 254
	w = did(t, w, sending(longCmd(500)), sending(asks(17, 1, "")))
	want(t, w.Fop.Next == 2 && len(w.Fop.Sent) == 4 && len(w.Wait) == 1, "sent are %v, %v waits", w.Fop, w.Wait)
	w = did(t, w, events(4, 3, 6, 3, 6, 3, 6, 2)...)
	want(t, len(w.Done) == 0 && w.Exec.Farm.Next == 254 && w.Exec.Farm.Again, "the craft is %v", w.Exec)
	w = impl.WorldCalm(w, 1)
	want(t, impl.WorldStill(w) && impl.WorldSafe(w) && w.Exec.Farm.Next == 3 && w.Fop.Next == 3 && len(w.Done) == 2, "it becomes %v", w)
}

func TestP63FramesLostUpDownAndBoth(t *testing.T) {
	c := flying()
	begun := did(t, impl.WorldNew(c), sending(longCmd(500)), sending(asks(17, 1, "")), sending(asks(17, 1, "")))
	want(t, len(begun.Up) == 4 && len(begun.Wait) == 2 && len(begun.Fop.Sent) == 4, "it begins with %v", begun)
	for _, k := range []struct {
		kinds               []int
		next, sent, up, got int
	}{
		{[]int{3, 6, 3, 6, 3, 6, 3, 6}, 4, 2, 2, 1},
		{[]int{4, 3, 6, 3, 6, 3, 6}, 0, 4, 0, 0},
		{[]int{3, 7, 3, 7, 3, 7, 3, 7}, 4, 4, 0, 1},
		{[]int{3, 7, 3, 7, 3, 7, 3, 6}, 4, 2, 2, 1},
		{[]int{3, 7, 4, 3, 7, 3, 7}, 1, 4, 0, 0},
		{[]int{3, 7, 4, 3, 7, 3, 6}, 1, 4, 1, 0},
		{[]int{4, 4, 4, 4, 3, 7}, 0, 4, 0, 0},
		{[]int{3, 7, 3, 7, 3, 7, 3, 7, 2, 3, 3, 3, 3, 7, 7, 7, 6}, 4, 2, 2, 1},
	} {
		w := did(t, begun, events(k.kinds...)...)
		want(t, w.Exec.Farm.Next == k.next && len(w.Fop.Sent) == k.sent && len(w.Up) == k.up && len(w.Done) == k.got, "behind %v: %v", k.kinds, w)
		w = impl.WorldCalm(w, 1)
		want(t, impl.WorldStill(w) && impl.WorldSafe(w) && len(w.Done) == 3 && w.Exec.Farm.Next == 6 && w.Fop.Next == 6 && !w.Exec.Join.Open, "behind %v and a calm: %v", k.kinds, w)
		for i, got := range w.Done {
			want(t, got.Cmd == w.Given[i] && got.Cmd.Count == i, "done are %v", w.Done)
		}
	}
}

func TestP64WhoMayAskIsDoneInACalm(t *testing.T) {
	dice := newDice(154)
	modes := map[int]int{}
	for range 100 {
		c := someSteady(dice)
		c.Rules = append(c.Rules[:min(len(c.Rules), 11)], impl.Rule{Source: 9, Service: 17, Sub: 1, Plain: true, Safe: true})
		w := impl.WorldPlay(c, someEvents(dice, c, 250))
		if len(w.Given) == 40 {
			continue
		}
		test := impl.Cmd{Source: 9, Service: 17, Sub: 1}
		w = did(t, w, sending(test))
		test.Count = len(w.Given) - 1
		w = impl.WorldCalm(w, 7)
		done := slices.ContainsFunc(w.Done, func(g impl.Got) bool { return g.Cmd == test && !g.Late && g.Part == -1 })
		want(t, done, "%v is not done: %v", test, w)
		modes[w.Exec.Mode]++
	}
	want(t, modes[0] > 15 && modes[1] > 15, "the modes were %v", modes)
}

func TestP65DoneInAModeInWhichItIsLet(t *testing.T) {
	dice := newDice(155)
	modes, late := map[int]int{}, 0
	for range 120 {
		c := someSteady(dice)
		w := impl.WorldNew(c)
		for _, e := range someEvents(dice, c, 300) {
			x, _ := impl.WorldDo(w, e)
			for _, got := range x.Done[len(w.Done):] {
				want(t, e.Kind == impl.WorldTick && impl.RulesLet(c.Rules, w.Exec.Mode, got.Cmd), "in the mode %d %v is done", w.Exec.Mode, got)
				want(t, !got.Late || w.Exec.Mode == impl.ModePlain, "in the mode %d %v is done", w.Exec.Mode, got)
				modes[w.Exec.Mode]++
				if got.Late {
					late++
				}
			}
			w = x
		}
	}
	want(t, modes[0] > 300 && modes[1] > 100 && late > 60, "done were %v, %d late", modes, late)
}

func TestP65WhatWaitsForItsTimeInSafeMode(t *testing.T) {
	c := flying()
	put := asks(11, 4, fourBytes(6)+impl.CmdPut(asks(17, 1, "")))
	list := []impl.Event{sending(put), sending(asks(8, 1, ""))}
	list = append(list, events(3, 3, 3, 6, 6, 6)...)
	w := did(t, impl.WorldNew(c), list...)
	want(t, len(w.Done) == 2 && w.Exec.Want == 1 && w.Exec.Mode == 0 && w.Exec.Now == 3 && len(w.Exec.Plan.Items) == 1, "at first: %v", w)
	w = impl.WorldCalm(w, 2)
	want(t, len(w.Done) == 2 && w.Exec.Mode == 1 && w.Exec.Now == 83 && len(w.Exec.Plan.Items) == 1, "in safe mode: %v", w)
	want(t, impl.WorldStill(w) && impl.WorldSafe(w), "what waits for its time is on its way: %v", w)
	w = did(t, w, sending(asks(8, 2, "")), sending(asks(17, 1, "")))
	w = impl.WorldCalm(w, 1)
	want(t, len(w.Done) == 5 && w.Done[4].Late && w.Done[4].Time > 83 && !w.Done[3].Late && w.Exec.Mode == 0 && len(w.Exec.Plan.Items) == 0, "in plain mode again: %v", w)
	want(t, impl.WorldStill(w) && impl.WorldSafe(w) && w.Done[4].Cmd == asks(17, 1, ""), "what came late: %v", w.Done)
}

func TestP66HeardInTheOrderOfWhatWasTold(t *testing.T) {
	dice := newDice(156)
	heard := 0
	for range 150 {
		c := someSteady(dice)
		w := impl.WorldCalm(impl.WorldPlay(c, someEvents(dice, c, 300)), dice.Intn(3))
		counts, times := map[int]int{}, map[int]int{}
		for _, r := range w.Reps {
			count, is := counts[r.Apid]
			want(t, (!is || r.Count > count) && r.Time >= times[r.Apid] && r.Time <= w.Exec.Now, "heard is %v behind %d, %d", r, count, times[r.Apid])
			want(t, r.Apid == 0 || slices.Contains(c.Apids, r.Apid), "%v is of nobody", r)
			counts[r.Apid], times[r.Apid] = r.Count, r.Time
			heard++
		}
	}
	want(t, heard > 3000, "only %d were heard", heard)
}

func TestP67EachEventJustAsAsked(t *testing.T) {
	dice := newDice(157)
	could, full := map[int]int{}, 0
	for range 5000 {
		c := someSteady(dice)
		w := someWorld(dice, c)
		want(t, impl.WorldOk(w), "%v is not ok", w)
		e := someEvent(dice, c, w.Exec.Now, 40)
		x, can := impl.WorldDo(w, e)
		asked, could2 := plainWorldDo(w, e)
		want(t, can == could2 && sameWorld(x, asked), "WorldDo(%v, %v) is %v, %t, not %v", w, e, x, can, asked)
		want(t, impl.WorldOk(x), "behind %v %v is not ok", e, x)
		want(t, can || sameWorld(x, w), "what cannot be changes %v into %v", w, x)
		want(t, slices.Equal(x.Done[:len(w.Done)], w.Done) && slices.Equal(x.Given[:len(w.Given)], w.Given) && slices.Equal(x.Reps[:len(w.Reps)], w.Reps), "behind %v something was forgotten: %v", e, x)
		if can {
			could[e.Kind]++
		} else if e.Kind == 1 && len(w.Given) < 40 && impl.CmdPut(e.Cmd) != "" {
			full++
		}
	}
	for kind := 1; kind <= 7; kind++ {
		want(t, could[kind] > 30, "of the kind %d only %d could be", kind, could[kind])
	}
	want(t, full > 5, "only %d had no room to wait", full)
}

func TestP69PlaysJustAsAsked(t *testing.T) {
	dice := newDice(158)
	for range 100 {
		c := someSteady(dice)
		list := someEvents(dice, c, []int{0, 1, 2, 299, 300, dice.Intn(301)}[dice.Intn(6)])
		one, asked := impl.WorldNew(c), impl.WorldNew(c)
		for i, e := range list {
			x, can := impl.WorldDo(one, e)
			y, could := plainWorldDo(asked, e)
			want(t, can == could && sameWorld(x, y), "the event %d, %v, makes %v into %v, %t, not %v", i, e, one, x, can, y)
			want(t, can || sameWorld(x, one), "what cannot be changes %v into %v", one, x)
			one, asked = x, y
		}
		w := impl.WorldPlay(c, list)
		want(t, sameWorld(w, one) && impl.WorldOk(w), "together %d events make %v, one by one %v", len(list), w, one)
	}
}

func TestP68WhatIsSpoiltOrLostChangesNothing(t *testing.T) {
	c := flying()
	for _, cmd := range []impl.Cmd{asks(8, 1, ""), sends(7, "\x00\x09"), asks(17, 1, "\x00")} {
		w := did(t, impl.WorldNew(c), sending(cmd))
		lost := did(t, w, events(4, 3)...)
		as := did(t, w, events(3)...)
		empty := w
		empty.Up = nil
		want(t, sameExec(lost.Exec, did(t, empty, events(3)...).Exec) && !sameExec(as.Exec, lost.Exec), "lost, the craft is %v", lost.Exec)
		size := len(w.Up[0].Text)
		for at := range size {
			for mask := range 127 {
				x := did(t, w, impl.Event{Kind: impl.WorldSpoil, Num: mask*4096 + at}, impl.Event{Kind: impl.WorldTick})
				fits := sameExec(x.Exec, lost.Exec) && slices.Equal(x.Done, lost.Done) && slices.Equal(x.Down, lost.Down)
				if at >= size-8 {
					fits = fits || sameExec(x.Exec, as.Exec) && slices.Equal(x.Done, as.Done)
				}
				want(t, fits, "with the byte %d of %d spoilt by %d the craft is %v", at, size, mask+1, x.Exec)
			}
		}
	}
}

func TestP68SpoiltWithOthersBehind(t *testing.T) {
	dice := newDice(159)
	for range 300 {
		c := someSteady(dice)
		w := impl.WorldPlay(c, someEvents(dice, c, dice.Intn(200)))
		if len(w.Up) == 0 || w.Up[0].Spoil || len(w.Down) == 12 {
			continue
		}
		num := dice.Intn(127)*4096 + dice.Intn(len(w.Up[0].Text)-8)
		x := did(t, w, impl.Event{Kind: impl.WorldSpoil, Num: num}, impl.Event{Kind: impl.WorldTick})
		// The others behind it would be heard in its place if it were lost, so it is held against a tick in which nothing comes up.
		nothing, down, got := impl.ExecTick(c, w.Exec, "")
		want(t, sameExec(x.Exec, nothing) && x.Down[len(x.Down)-1] == down && slices.Equal(x.Done, append(slices.Clone(w.Done), got...)), "spoilt, %v makes %v", w, x)
		want(t, slices.Equal(x.Up, w.Up[1:]), "left of %v are %v", w.Up, x.Up)
	}
}

func TestP70CalmRoundsOneByOne(t *testing.T) {
	dice := newDice(160)
	for n := range 24 {
		c := someSteady(dice)
		w := impl.WorldPlay(c, someEvents(dice, c, 200))
		if n%3 == 0 {
			w = someWorld(dice, c)
		}
		by := w
		for rounds := range 9 {
			x := impl.WorldCalm(w, rounds)
			want(t, sameWorld(x, by) && sameWorld(x, plainCalm(w, rounds)), "%d rounds make %v into %v, one by one %v", rounds, w, x, by)
			by = impl.WorldCalm(by, 1)
		}
		all := impl.WorldCalm(w, 8)
		for _, rounds := range []int{9, 10, 100, 1 << 40} {
			want(t, sameWorld(impl.WorldCalm(w, rounds), all), "%d rounds are not eight", rounds)
		}
		for _, rounds := range []int{-1, -2, -8, -1 << 40} {
			want(t, sameWorld(impl.WorldCalm(w, rounds), w), "%d rounds are not none", rounds)
		}
	}
}

func TestP70EachThingInACalmRound(t *testing.T) {
	w := impl.WorldCalm(impl.WorldNew(flying()), 1)
	want(t, w.Exec.Now == 40 && len(w.Down) == 0, "behind a round it is %v", w)
	for rounds := range 11 {
		w := impl.WorldCalm(impl.WorldNew(flying()), rounds)
		want(t, w.Exec.Now == 40*min(rounds, 8), "behind %d rounds it is %d", rounds, w.Exec.Now)
	}
	// All that was sent is lost, so it comes up once it is sent again, in the ticks 0, 8, 16 ..
	w = did(t, impl.WorldNew(flying()), sending(asks(17, 1, "")), impl.Event{Kind: 4})
	w = impl.WorldCalm(w, 1)
	want(t, len(w.Done) == 1 && w.Done[0].Time == 1, "done are %v", w.Done)
	// Of a spoilt one and one that comes too early nothing is taken; nothing is sent again ahead of the tick 8.
	w = did(t, impl.WorldNew(flying()), sending(asks(17, 1, "")), sending(asks(17, 1, "")), impl.Event{Kind: impl.WorldSpoil, Num: 9})
	w = impl.WorldCalm(w, 1)
	want(t, len(w.Done) == 2 && w.Done[0].Time == 9 && w.Done[1].Time == 10 && impl.WorldStill(w), "done are %v", w.Done)
}

func TestP70ACalmAtTheEndOfTime(t *testing.T) {
	w := impl.WorldNew(flying())
	w.Exec.Now = 99990
	w = did(t, w, sending(asks(17, 1, "")), sending(longCmd(99999)), impl.Event{Kind: impl.WorldTick})
	w = impl.WorldCalm(w, 8)
	want(t, w.Exec.Now == 99999 && len(w.Down) == 0 && len(w.Done) == 2 && impl.WorldOk(w), "at the end of time: %v", w)
	x := impl.WorldCalm(w, 8)
	want(t, sameWorld(x, w), "behind the end of time %v became %v", w, x)
	w = did(t, w, sending(asks(17, 1, "")))
	x = impl.WorldCalm(w, 8)
	want(t, sameWorld(x, w) && len(x.Up) == 1 && !impl.WorldStill(x), "what comes up at the end of time is %v", x.Up)
}

func TestP71SafeOnlyIfItIsOk(t *testing.T) {
	dice := newDice(161)
	for range 300 {
		c := someSteady(dice)
		w := someWorld(dice, c)
		w.Done = nil
		want(t, impl.WorldOk(w) && impl.WorldSafe(w), "with nothing done it is not safe: %v", w)
		want(t, impl.WorldSafe(impl.WorldNew(c)) && impl.WorldStill(impl.WorldNew(c)), "at first it is not safe, or not still")
	}
	for _, w := range badWorlds() {
		want(t, !impl.WorldOk(w) && !impl.WorldSafe(w), "it is safe, but not ok: %v", w)
		w.Done = nil
		want(t, impl.WorldSafe(w) == impl.WorldOk(w), "with nothing done safe is %t: %v", impl.WorldSafe(w), w)
	}
}

func TestP73DoneAtItsTime(t *testing.T) {
	dice := newDice(162)
	late := 0
	for range 250 {
		c := someSteady(dice)
		w := impl.WorldCalm(impl.WorldPlay(c, someEvents(dice, c, 300)), dice.Intn(3))
		for i, got := range w.Done {
			if got.Cmd.Apid == 0 && got.Cmd.Service == 11 && got.Cmd.Sub == 5 {
				break
			}
			if !got.Late {
				continue
			}
			put := slices.ContainsFunc(w.Done[:i], func(g impl.Got) bool {
				n, ok := impl.NumGet(g.Cmd.Data, 0, 4)
				return ok && g.Cmd.Apid == 0 && g.Cmd.Service == 11 && g.Cmd.Sub == 4 && g.Cmd.Data[4:] == impl.CmdPut(got.Cmd) && n <= got.Time && g.Time < got.Time
			})
			want(t, put, "%v was put by none of %v", got, w.Done[:i])
			late++
		}
	}
	want(t, late > 60, "only %d were late", late)
}

func TestP73JustAtItsTime(t *testing.T) {
	c := flying()
	inner := sends(8, "\x00\x09")
	for _, time := range []int{4, 5, 9, 30} {
		w := did(t, impl.WorldNew(c), sending(asks(11, 4, fourBytes(time)+impl.CmdPut(inner))))
		for w.Exec.Now < time-1 {
			w = did(t, w, events(3, 6)...)
			late := slices.ContainsFunc(w.Done, func(g impl.Got) bool { return g.Late })
			want(t, !late, "for %d at %d is done %v", time, w.Exec.Now, w.Done)
		}
		w = did(t, w, events(3)...)
		want(t, len(w.Done) == 2 && w.Done[1] == impl.Got{Time: time, Part: 1, Late: true, Cmd: inner} && impl.WorldSafe(w), "for %d at %d is done %v", time, w.Exec.Now, w.Done)
	}
}
