package tests

import (
	"math/rand"
	"slices"
	"strconv"

	"loop.example/skyway/impl"
)

// cloneConf is how a craft is made, in memory of its own.
func cloneConf(c impl.Conf) impl.Conf {
	c.Progs = slices.Clone(c.Progs)
	for i, prog := range c.Progs {
		c.Progs[i] = slices.Clone(prog)
	}
	for _, list := range []*[]int{&c.Apids, &c.Budgets, &c.Plain, &c.Safe, &c.Down} {
		*list = slices.Clone(*list)
	}
	c.Rules = slices.Clone(c.Rules)
	return c
}

// cloneWorld is a world in memory of its own.
func cloneWorld(w impl.World) impl.World {
	w.Conf, w.Exec, w.Fop.Sent = cloneConf(w.Conf), cloneExec(w.Exec), slices.Clone(w.Fop.Sent)
	w.Wait, w.Up, w.Down = slices.Clone(w.Wait), slices.Clone(w.Up), slices.Clone(w.Down)
	w.Given, w.Done, w.Hears, w.Reps = slices.Clone(w.Given), slices.Clone(w.Done), slices.Clone(w.Hears), slices.Clone(w.Reps)
	return w
}

// sameConf says whether two crafts are made alike.
func sameConf(a impl.Conf, b impl.Conf) bool {
	return a.Craft == b.Craft && a.Via == b.Via && a.Limit == b.Limit &&
		slices.EqualFunc(a.Progs, b.Progs, func(p []impl.Op, q []impl.Op) bool { return slices.Equal(p, q) }) &&
		slices.Equal(a.Apids, b.Apids) && slices.Equal(a.Budgets, b.Budgets) && slices.Equal(a.Plain, b.Plain) &&
		slices.Equal(a.Safe, b.Safe) && slices.Equal(a.Down, b.Down) && slices.Equal(a.Rules, b.Rules)
}

// sameWorld says whether two worlds are the same.
func sameWorld(a impl.World, b impl.World) bool {
	return sameConf(a.Conf, b.Conf) && sameExec(a.Exec, b.Exec) && sameFop(a.Fop, b.Fop) && sameTexts(a.Wait, b.Wait) &&
		slices.Equal(a.Up, b.Up) && sameTexts(a.Down, b.Down) && slices.Equal(a.Given, b.Given) && slices.Equal(a.Done, b.Done) &&
		slices.Equal(a.Hears, b.Hears) && slices.Equal(a.Reps, b.Reps)
}

// isNoWorld says whether a world is nothing at all.
func isNoWorld(w impl.World) bool {
	return sameWorld(w, impl.World{})
}

// plainRise lets a frame come up behind all else, as the document says it.
func plainRise(w *impl.World, f impl.Frame) {
	if len(w.Up) < 12 {
		w.Up = append(w.Up, impl.Link{Text: impl.CltuPut(impl.FramePut(f))})
	}
}

// plainNext sends the next, as the document says it.
func plainNext(w *impl.World) {
	for len(w.Wait) > 0 && !w.Fop.Shut && len(w.Fop.Sent) < 4 {
		f := impl.Frame{Craft: w.Conf.Craft, Via: w.Conf.Via, Seq: w.Fop.Next, Data: w.Wait[0]}
		w.Wait, w.Fop.Sent, w.Fop.Next = w.Wait[1:], append(w.Fop.Sent, w.Wait[0]), (w.Fop.Next+1)%256
		plainRise(w, f)
	}
}

// plainSend gives a command, as the document says it.
func plainSend(w *impl.World, c impl.Cmd) bool {
	if impl.CmdPut(c) == "" || len(w.Given) >= 40 {
		return false
	}
	c.Count = len(w.Given)
	w.Given = append(w.Given, c)
	w.Wait = append(w.Wait, plainSegCut(impl.CmdPut(c), w.Conf.Via)...)
	plainNext(w)
	return len(w.Wait) <= 240
}

// plainAgain sends all once more that was not answered for, as the document says it.
func plainAgain(w *impl.World) bool {
	if w.Fop.Shut {
		plainRise(w, impl.FarmOpen(w.Conf.Craft, w.Conf.Via))
	}
	for i, data := range w.Fop.Sent {
		plainRise(w, impl.Frame{Craft: w.Conf.Craft, Via: w.Conf.Via, Seq: mod256(w.Fop.Next - len(w.Fop.Sent) + i), Data: data})
	}
	return w.Fop.Shut || len(w.Fop.Sent) > 0
}

// plainWorldTick lets a tick go by, as the document says it.
func plainWorldTick(w *impl.World) bool {
	up := ""
	if len(w.Up) > 0 {
		up = w.Up[0].Text
	}
	e, down, got := plainTick(w.Conf, w.Exec, up)
	if down == "" || len(w.Down) >= 12 {
		return false
	}
	if len(w.Up) > 0 {
		w.Up = w.Up[1:]
	}
	w.Exec, w.Down, w.Done = e, append(w.Down, down), append(w.Done, got...)
	return true
}

// plainSpoil spoils a text on its way up, as the document says it.
func plainSpoil(w *impl.World, at int, num int) bool {
	if at < 0 || at >= len(w.Up) || w.Up[at].Spoil || w.Up[at].Text == "" || num < 0 {
		return false
	}
	text := w.Up[at].Text
	w.Up[at] = impl.Link{Text: turned(text, num%4096%len(text), 1+(num/4096)%127), Spoil: true}
	return true
}

// plainWorldHear hears the first frame down, as the document says it.
func plainWorldHear(w *impl.World) bool {
	if len(w.Down) == 0 {
		return false
	}
	d, ok := impl.DownGet(w.Down[0])
	w.Down = w.Down[1:]
	if !ok || d.Craft != w.Conf.Craft || d.Who >= len(w.Hears) {
		return true
	}
	h, packs := plainHears(w.Hears[d.Who], d)
	w.Hears[d.Who] = h
	for _, pack := range packs {
		if r, ok := impl.RepGet(pack); ok {
			w.Reps = append(w.Reps, r)
		}
	}
	farm, _ := impl.FarmGet(d.Farm)
	if n := mod256(farm.Next - w.Fop.Next + len(w.Fop.Sent)); n <= len(w.Fop.Sent) {
		w.Fop.Sent, w.Fop.Shut = w.Fop.Sent[n:], farm.Shut
	}
	plainNext(w)
	return true
}

// plainWorldDo lets something happen in a world that is ok, as the document says it.
func plainWorldDo(w impl.World, e impl.Event) (impl.World, bool) {
	x := cloneWorld(w)
	can := false
	switch e.Kind {
	case 1:
		can = plainSend(&x, e.Cmd)
	case 2:
		can = plainAgain(&x)
	case 3:
		can = plainWorldTick(&x)
	case 4:
		if can = e.At >= 0 && e.At < len(x.Up); can {
			x.Up = append(x.Up[:e.At], x.Up[e.At+1:]...)
		}
	case 5:
		can = plainSpoil(&x, e.At, e.Num)
	case 6:
		can = plainWorldHear(&x)
	case 7:
		if can = len(x.Down) > 0; can {
			x.Down = x.Down[1:]
		}
	}
	if !can {
		return w, false
	}
	return x, true
}

// plainCalm lets a world that is ok be in peace, as the document says it.
func plainCalm(w impl.World, rounds int) impl.World {
	for range max(0, min(rounds, 8)) {
		for n := range 40 {
			if n%8 == 0 && len(w.Up) == 0 {
				w, _ = plainWorldDo(w, impl.Event{Kind: 2})
			}
			for len(w.Down) > 0 {
				w, _ = plainWorldDo(w, impl.Event{Kind: 6})
			}
			w, _ = plainWorldDo(w, impl.Event{Kind: 3})
			for len(w.Down) > 0 {
				w, _ = plainWorldDo(w, impl.Event{Kind: 6})
			}
		}
	}
	return w
}

// plainSafe says whether a world that is ok is safe, as the document says it.
func plainSafe(w impl.World) bool {
	last := -1
	for i, got := range w.Done {
		if !plainLet(w.Conf.Rules, 0, got.Cmd) && !plainLet(w.Conf.Rules, 1, got.Cmd) {
			return false
		}
		if got.Late {
			put := false
			for _, ahead := range w.Done[:i] {
				c := ahead.Cmd
				put = put || c.Apid == 0 && c.Service == 11 && c.Sub == 4 && len(c.Data) > 4 && c.Data[4:] == impl.CmdPut(got.Cmd)
			}
			if !put {
				return false
			}
			continue
		}
		place := slices.Index(w.Given, got.Cmd)
		if place <= last {
			return false
		}
		last = place
	}
	return true
}

// plainBoard tells how all stands in a world that is ok, as the document says it.
func plainBoard(w impl.World) string {
	n := strconv.Itoa
	e := w.Exec
	text := "craft " + n(w.Conf.Craft) + " at " + n(e.Now) + ", " + []string{"plain", "safe"}[e.Mode] + ", turn " + n(e.Turn) + ", next " + n(e.Farm.Next) + ", " + n(len(e.Plan.Items)) + " planned\n"
	for i, p := range e.Parts {
		text += "part " + n(i) + " at " + n(p.At)
		if p.Fails {
			text += " failed"
		}
		for _, cell := range p.Cells {
			text += " " + n(cell)
		}
		text += "\n"
	}
	text += "ground: " + n(len(w.Given)) + " given, " + n(len(w.Wait)) + " wait, " + n(len(w.Fop.Sent)) + " sent, " + n(len(w.Up)) + " up, " + n(len(w.Down)) + " down\n"
	for _, g := range w.Done {
		text += "done " + n(g.Time) + " by " + n(g.Part) + ": " + n(g.Cmd.Apid) + "/" + n(g.Cmd.Count) + " " + n(g.Cmd.Service) + "." + n(g.Cmd.Sub) + "\n"
	}
	for _, r := range w.Reps {
		text += "told " + n(r.Time) + ": " + n(r.Apid) + "/" + n(r.Count) + " " + n(r.Service) + "." + n(r.Sub) + ", " + n(len(r.Data)) + " bytes\n"
	}
	return text
}

// someSteady is how a craft is made; every other time with programs that do not lead to safe mode by themselves, so that it is plain for longer.
func someSteady(dice *rand.Rand) impl.Conf {
	c := someFlying(dice)
	if dice.Intn(2) == 0 {
		return c
	}
	for i := range c.Progs {
		c.Progs[i] = []impl.Op{{Do: impl.OpTake}, {Do: impl.OpTell}, {Do: impl.OpRest}}
	}
	return c
}

// someLater is a command by which another one is put to wait, for a time a little behind now.
func someLater(dice *rand.Rand, c impl.Conf, now int) impl.Cmd {
	r := c.Rules[dice.Intn(len(c.Rules))]
	inner := impl.Cmd{Apid: r.Apid, Count: dice.Intn(99), Source: r.Source, Service: r.Service, Sub: r.Sub}
	if r.Apid != 0 {
		inner.Data = "\x00\x09"
	}
	return asks(11, 4, fourBytes(now+4+dice.Intn(20))+impl.CmdPut(inner))
}

// someOrder is a command that a craft can mostly do, at about a time.
func someOrder(dice *rand.Rand, c impl.Conf, now int) impl.Cmd {
	for {
		if cmd, code := impl.CmdGet(someAsk(dice, c, now)); code == 0 {
			return cmd
		}
	}
}

// someEvent is something that happens, at about a time; how often frames are lost, spoilt or missed is said in hundredths.
func someEvent(dice *rand.Rand, c impl.Conf, now int, bad int) impl.Event {
	if dice.Intn(100) < bad {
		return []impl.Event{
			{Kind: 4, At: dice.Intn(14) - 1}, {Kind: 5, At: dice.Intn(4), Num: dice.Intn(128 * 4096)}, {Kind: 5, At: dice.Intn(14) - 1, Num: dice.Intn(1<<30) - 9}, {Kind: 7},
			{Kind: 1, Cmd: impl.Cmd{Source: 256}}, {Kind: dice.Intn(12) - 2},
		}[dice.Intn(6)]
	}
	switch dice.Intn(12) {
	case 0:
		return impl.Event{Kind: 1, Cmd: someOrder(dice, c, now)}
	case 1:
		return impl.Event{Kind: 1, Cmd: someLater(dice, c, now)}
	case 2:
		return impl.Event{Kind: 2}
	case 3, 4, 5, 6:
		return impl.Event{Kind: 6}
	}
	return impl.Event{Kind: 3}
}

// someEvents are what happens one behind the other.
func someEvents(dice *rand.Rand, c impl.Conf, count int) []impl.Event {
	bad := []int{0, 5, 15, 30, 60}[dice.Intn(5)]
	var list []impl.Event
	for n := range count {
		list = append(list, someEvent(dice, c, n/2, bad))
	}
	return list
}

// someDowns are texts on their way down, most of them frames of this craft.
func someDowns(dice *rand.Rand, w impl.World) []string {
	var list []string
	for range dice.Intn(13) {
		d := someDown(dice)
		d.Craft, d.Who = w.Conf.Craft, dice.Intn(len(w.Hears))
		if dice.Intn(2) == 0 {
			_, d.Data, d.First = impl.QueueFill(someQueue(dice))
			d.Own = w.Hears[d.Who].Next
		}
		farm := impl.Farm{Next: mod256(w.Fop.Next - dice.Intn(6)), Shut: dice.Intn(4) == 0, Count: dice.Intn(4)}
		d.Farm = impl.FarmPut(farm)
		switch dice.Intn(8) {
		case 0:
			d.Craft ^= 1
		case 1:
			d.Who = dice.Intn(8)
		case 2:
			list = append(list, someText(dice, dice.Intn(41)))
			continue
		}
		list = append(list, impl.DownPut(d))
	}
	return list
}

// someWorld is a world that is ok, as no play may lead to it.
func someWorld(dice *rand.Rand, c impl.Conf) impl.World {
	w := impl.World{Conf: c, Exec: someExec(dice, c)}
	w.Fop = impl.Fop{Craft: c.Craft, Via: c.Via, Next: dice.Intn(256), Shut: dice.Intn(4) == 0}
	for range dice.Intn(5) {
		w.Fop.Sent = append(w.Fop.Sent, someText(dice, 1+dice.Intn(53)))
	}
	for range []int{0, 1, 3, 235, 240, dice.Intn(241)}[dice.Intn(6)] {
		w.Wait = append(w.Wait, someText(dice, 1+dice.Intn(21)))
	}
	for range []int{0, 1, 2, 9, 11, 12}[dice.Intn(6)] {
		up := someUp(dice, c, w.Exec)
		w.Up = append(w.Up, impl.Link{Text: up[:min(400, len(up))], Spoil: dice.Intn(4) == 0})
	}
	for i := range []int{0, 1, 38, 39, 40, dice.Intn(41)}[dice.Intn(6)] {
		cmd := someOrder(dice, c, w.Exec.Now)
		cmd.Count = i
		w.Given = append(w.Given, cmd)
	}
	for range dice.Intn(6) {
		w.Done = append(w.Done, impl.Got{Time: dice.Intn(w.Exec.Now + 1), Part: dice.Intn(len(c.Progs)+1) - 1, Late: dice.Intn(2) == 0, Cmd: someCmd(dice)})
	}
	slices.SortStableFunc(w.Done, func(a impl.Got, b impl.Got) int { return a.Time - b.Time })
	for range len(c.Progs) + 1 {
		w.Hears = append(w.Hears, someHears(dice))
	}
	for range dice.Intn(4) {
		w.Reps = append(w.Reps, someRep(dice))
	}
	w.Down = someDowns(dice, w)
	return w
}
