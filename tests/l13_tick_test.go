package tests

import (
	"slices"
	"strings"
	"testing"

	"loop.example/skyway/impl"
)

// ticked is a craft so many ticks on, with nothing that comes up; what was done must be nothing.
func ticked(t *testing.T, c impl.Conf, e impl.Exec, ticks int) impl.Exec {
	t.Helper()
	for range ticks {
		x, down, got := impl.ExecTick(c, e, "")
		want(t, len(down) == 40 && len(got) == 0, "at %d there goes down %q, done is %v", e.Now, down, got)
		e = x
	}
	return e
}

// raising is a craft with one program, which does these ops in each turn of plain mode, and nobody's turns in safe mode.
func raising(limit int, ops ...impl.Op) impl.Conf {
	return impl.Conf{Progs: [][]impl.Op{ops}, Apids: []int{7}, Budgets: []int{40}, Plain: []int{0, -1}, Safe: []int{-1, -1}, Down: []int{0, 1}, Limit: limit}
}

func TestP53TicksJustAsAsked(t *testing.T) {
	dice := newDice(136)
	done, late := 0, 0
	for range 8000 {
		c := someFlying(dice)
		e := someExec(dice, c)
		up := someUp(dice, c, e)
		x, down, got := impl.ExecTick(c, e, up)
		asked, text, expected := plainTick(c, e, up)
		want(t, sameExec(x, asked) && down == text && slices.Equal(got, expected), "ExecTick(%v, %v, %q) is %v, %q, %v", c, e, up, x, down, got)
		want(t, impl.ExecOk(c, x), "%v is not ok", x)
		for _, g := range got {
			done++
			if g.Late {
				late++
			}
		}
	}
	want(t, done-late > 500 && late > 500, "only %d were done, %d of them late", done, late)
}

func TestP53RowsOfTicksJustAsAsked(t *testing.T) {
	dice := newDice(137)
	modes := map[int]int{}
	for range 60 {
		c := someFlying(dice)
		e := impl.ExecNew(c)
		var parts []string
		for range 120 {
			if len(parts) == 0 && dice.Intn(2) == 0 {
				parts = impl.SegCut(someAsk(dice, c, e.Now), c.Via)
			}
			up := ""
			if len(parts) > 0 {
				up = upOf(c, e.Farm.Next, parts[0])
				parts = parts[1:]
			}
			x, down, got := impl.ExecTick(c, e, up)
			asked, text, expected := plainTick(c, e, up)
			want(t, sameExec(x, asked) && down == text && slices.Equal(got, expected), "ExecTick(%v, %v, %q) is %v, %q, %v", c, e, up, x, down, got)
			modes[x.Mode]++
			e = x
		}
	}
	want(t, modes[0] > 500 && modes[1] > 500, "the modes were %v", modes)
}

func TestP53OneFrameOneTurnOneProgram(t *testing.T) {
	dice := newDice(138)
	ran := 0
	for range 3000 {
		c := someFlying(dice)
		e := someExec(dice, c)
		e.Now %= 99999
		up := someUp(dice, c, e)
		x, down, _ := impl.ExecTick(c, e, up[:min(len(up), 400)])
		d, ok := impl.DownGet(down)
		who := c.Down[e.Slot]
		want(t, ok && d.Craft == c.Craft && d.Who == who && d.All == e.All && d.Own == e.Owns[who] && d.Farm == impl.FarmPut(x.Farm), "at %v there goes down %v", e, d)
		want(t, x.Now == e.Now+1 && x.Turn == (e.Turn+1)%len(c.Plain) && x.Slot == (e.Slot+1)%len(c.Down) && x.All == (e.All+1)%256, "%v becomes %v", e, x)
		for i, own := range e.Owns {
			if i == who {
				own = (own + 1) % 256
			}
			want(t, x.Owns[i] == own, "of %d there were %d frames, then %d", i, e.Owns[i], x.Owns[i])
		}
		for i, p := range e.Parts {
			if i != impl.ConfTurn(c, x.Mode, e.Turn) {
				q := x.Parts[i]
				want(t, slices.Equal(q.Cells, p.Cells) && q.At == p.At && q.Fails == p.Fails && slices.Equal(q.Box[:len(p.Box)], p.Box), "the program %d, whose turn it is not, became %v", i, q)
			} else if !slices.Equal(x.Parts[i].Cells, p.Cells) {
				ran++
			}
		}
	}
	want(t, ran > 300, "only %d programs ran", ran)
}

func TestP53CountsThatGoRound(t *testing.T) {
	c := flying()
	e := impl.ExecNew(c)
	e.All, e.Slot, e.Turn, e.Owns = 254, 2, 1, []int{255, 255, 254}
	for _, k := range []struct{ all, slot, turn, own0, own1, own2, who, own int }{
		{255, 3, 2, 255, 255, 255, 2, 254}, {0, 0, 0, 0, 255, 255, 0, 255}, {1, 1, 1, 1, 255, 255, 0, 0}, {2, 2, 2, 1, 0, 255, 1, 255}, {3, 3, 0, 1, 0, 0, 2, 255}, {4, 0, 1, 2, 0, 0, 0, 1},
	} {
		x, down, _ := impl.ExecTick(c, e, "")
		d, _ := impl.DownGet(down)
		want(t, d.Who == k.who && d.Own == k.own && d.All == e.All, "down goes %v", d)
		want(t, x.All == k.all && x.Slot == k.slot && x.Turn == k.turn && slices.Equal(x.Owns, []int{k.own0, k.own1, k.own2}), "%v becomes %v", e, x)
		e = x
	}
}

func TestP53ProgramsRunInTheirTurns(t *testing.T) {
	more := []impl.Op{{Do: impl.OpMore, B: 1}}
	c := impl.Conf{Progs: [][]impl.Op{more, more, more}, Apids: []int{1, 2, 3}, Budgets: []int{1, 2, 40}, Plain: []int{0, 1, -1, 0}, Safe: []int{2, -1, 2, 2}, Down: []int{0}}
	for mode, rows := range [][][]int{{{1, 0, 0}, {1, 1, 0}, {1, 1, 0}, {2, 1, 0}, {3, 1, 0}}, {{0, 0, 1}, {0, 0, 1}, {0, 0, 2}, {0, 0, 3}, {0, 0, 4}}} {
		e := impl.ExecNew(c)
		e.Mode, e.Want = mode, mode
		for n, row := range rows {
			e = ticked(t, c, e, 1)
			for i, cell := range row {
				want(t, e.Parts[i].Cells[0] == cell && e.Turn == (n+1)%4, "in the mode %d behind %d ticks the program %d has %v", mode, n+1, i, e.Parts[i].Cells)
			}
		}
	}
}

func TestP53BudgetsBoundATurn(t *testing.T) {
	for _, budget := range []int{1, 2, 3, 39, 40} {
		c := raising(9999, impl.Op{Do: impl.OpMore, A: 1, B: 1}, impl.Op{Do: impl.OpJump, A: 1, B: 0})
		c.Budgets[0] = budget
		e := ticked(t, c, impl.ExecNew(c), 1)
		want(t, e.Parts[0].Cells[1] == (budget+1)/2 && e.Parts[0].At == budget%2, "with a budget of %d: %v", budget, e.Parts[0])
	}
}

func TestP53PortsAreForAll(t *testing.T) {
	c := impl.Conf{Progs: [][]impl.Op{{{Do: impl.OpTime}, {Do: impl.OpOut, B: 3}}, {{Do: impl.OpIn, A: 5, B: 3}}}, Apids: []int{1, 2}, Budgets: []int{9, 9}, Plain: []int{0, 1}, Safe: []int{1, 0}, Down: []int{0}}
	e := impl.ExecNew(c)
	e.Now = 10004
	e = ticked(t, c, e, 2)
	want(t, slices.Equal(e.Ports, []int{0, 0, 0, 5}) && e.Parts[1].Cells[5] == 5, "the ports are %v, the cells %v", e.Ports, e.Parts[1].Cells)
}

func TestP53TheLastTicks(t *testing.T) {
	dice := newDice(139)
	for range 200 {
		c := someFlying(dice)
		e := someExec(dice, c)
		e.Now = 99998
		x, down, _ := impl.ExecTick(c, e, "")
		want(t, x.Now == 99999 && len(down) == 40 && impl.ExecOk(c, x), "at 99998: %v, %q", x, down)
		for _, up := range []string{"", cmdUp(c, x, asks(17, 1, "")), strings.Repeat("x", 401)} {
			y, down, got := impl.ExecTick(c, x, up)
			want(t, sameExec(y, x) && down == "" && len(got) == 0, "at 99999: %v, %q, %v", y, down, got)
		}
	}
	c := raising(9999, impl.Op{Do: impl.OpTell})
	e := impl.ExecNew(c)
	e.Now = 99998
	e = ticked(t, c, e, 1)
	want(t, lastTold(e, 1) == impl.Rep{Apid: 7, Service: 3, Sub: 25, Time: 99999, Data: "\x00\x00"}, "told is %v", lastTold(e, 1))
}

func TestP53TextsUpOfAnySize(t *testing.T) {
	c := flying()
	e := impl.ExecNew(c)
	up := cmdUp(c, e, asks(8, 1, ""))
	for _, size := range []int{len(up), len(up) + 1, 399, 400} {
		x, down, got := impl.ExecTick(c, e, (up + strings.Repeat("\xeb", 400))[:size])
		want(t, x.Now == 1 && x.Want == 1 && len(got) == 1 && len(down) == 40, "of %d bytes: %v, %q, %v", size, x, down, got)
	}
	for _, size := range []int{401, 402, 5000} {
		x, down, got := impl.ExecTick(c, e, (up + strings.Repeat("\xeb", size))[:size])
		want(t, sameExec(x, e) && down == "" && len(got) == 0, "of %d bytes: %v, %q, %v", size, x, down, got)
	}
}

func TestP57FramesOfOthersAndNoFrames(t *testing.T) {
	c := flying()
	e := impl.ExecNew(c)
	e.Farm = impl.Farm{Waits: true, Again: true, Count: 2, Next: 255}
	e.Join = impl.Join{Open: true, Text: "x"}
	part := impl.SegCut(impl.CmdPut(asks(8, 1, "")), 3)[0]
	frame := impl.Frame{Craft: 5, Via: 3, Seq: 255, Data: part}
	good := impl.CltuPut(impl.FramePut(frame))
	craft, via := frame, frame
	craft.Craft, via.Via = 4, 2
	ups := []string{
		"", "x", "\xeb", "\xeb\x90", strings.Repeat("\xeb", 400), good[1:], "\xeb" + good, good[:9], good[:len(good)-16], turned(good, 8, 2), impl.FramePut(frame),
		impl.CltuPut(impl.FramePut(craft)), impl.CltuPut(impl.FramePut(via)), impl.CltuPut("x"), impl.CltuPut(impl.FramePut(impl.FarmOpen(4, 3))), impl.CltuPut(impl.FramePut(impl.FarmSet(5, 2, 9))),
	}
	for _, up := range ups {
		x, _, got := impl.ExecTick(c, e, up)
		y, _, _ := impl.ExecTick(c, e, "")
		want(t, len(got) == 0 && sameExec(x, y) && x.Farm == e.Farm && x.Join == e.Join, "of %q %v comes, done is %v", up, x, got)
	}
	x, _, got := impl.ExecTick(c, e, good)
	want(t, len(got) == 1 && x.Farm == impl.Farm{Count: 2} && x.Join == impl.Join{}, "of the good one %v comes, done is %v", x, got)
}

func TestP57FramesInOrderAndPastIt(t *testing.T) {
	c := flying()
	part := impl.SegCut(impl.CmdPut(asks(8, 1, "")), 3)[0]
	for _, f := range okFarms(0, 9, 255) {
		for seq := range 256 {
			e := impl.ExecNew(c)
			e.Farm = f
			x, down, got := impl.ExecTick(c, e, upOf(c, seq, part))
			asked := f
			asked.Waits = false
			asked, code := plainHear(asked, seq, true)
			d, _ := impl.DownGet(down)
			want(t, x.Farm == asked && (len(got) == 1) == (code == 0) && (x.Want == 1) == (code == 0) && d.Farm == impl.FarmPut(asked), "%v hears %d: %v, %v, %v", f, seq, x.Farm, got, d)
		}
		e := impl.ExecNew(c)
		e.Farm = f
		x, _, got := impl.ExecTick(c, e, impl.CltuPut(impl.FramePut(impl.Frame{Past: true, Craft: 5, Via: 3, Seq: 77, Data: part})))
		asked := counted(f)
		asked.Waits = false
		want(t, x.Farm == asked && len(got) == 1, "%v hears one past the order: %v, %v", f, x.Farm, got)
		x, _, got = impl.ExecTick(c, e, impl.CltuPut(impl.FramePut(impl.FarmOpen(5, 3))))
		want(t, x.Farm == impl.Farm{Count: (f.Count + 1) % 4, Next: f.Next} && len(got) == 0, "%v hears what opens it: %v, %v", f, x.Farm, got)
		x, _, got = impl.ExecTick(c, e, impl.CltuPut(impl.FramePut(impl.Frame{Past: true, Govern: true, Craft: 5, Via: 3, Data: part})))
		asked = f
		asked.Waits = false
		want(t, x.Farm == asked && x.Join == e.Join && len(got) == 0, "%v hears what governs nothing: %v, %v", f, x.Farm, got)
	}
}

func TestP57CommandsInParts(t *testing.T) {
	c := flying()
	e := impl.ExecNew(c)
	cmd := asks(11, 4, fourBytes(500)+strings.Repeat("d", 56))
	parts := impl.SegCut(impl.CmdPut(cmd), 3)
	want(t, len(parts) == 4, "there are %d parts", len(parts))
	for i, part := range parts {
		x, _, got := impl.ExecTick(c, e, upOf(c, i, part))
		want(t, x.Farm.Next == i+1 && x.Join.Open == (i < 3) && (len(got) == 1) == (i == 3), "behind the part %d: %v, %v", i, x, got)
		if i == 3 {
			want(t, got[0] == impl.Got{Time: 4, Part: -1, Cmd: cmd} && slices.Equal(x.Plan.Items, []impl.Item{{Time: 500, Text: strings.Repeat("d", 56)}}), "done is %v, the plan %v", got, x.Plan)
		}
		e, _, got = impl.ExecTick(c, x, upOf(c, i, part))
		want(t, len(got) == 0 && e.Join == x.Join && e.Farm == x.Farm, "behind the part %d once more: %v, %v", i, e, got)
		e.Now = x.Now
	}
	x, _, _ := impl.ExecTick(c, impl.ExecNew(c), upOf(c, 0, parts[0][:1]))
	want(t, x.Farm.Next == 1 && x.Join == impl.Join{}, "of a part without a text %v comes", x)
	x, _, _ = impl.ExecTick(c, impl.ExecNew(c), upOf(c, 0, "\x42"+parts[0][1:]))
	want(t, x.Farm.Next == 1 && x.Join == impl.Join{}, "of a part that goes another way %v comes", x)
}

func TestP54ModeChangesOnlyWhereARowBegins(t *testing.T) {
	dice := newDice(140)
	changes := 0
	for range 4000 {
		c := someFlying(dice)
		e := someExec(dice, c)
		x, down, _ := impl.ExecTick(c, e, someUp(dice, c, e))
		want(t, x.Mode == e.Mode || e.Turn == 0, "at the turn %d the mode %d became %d", e.Turn, e.Mode, x.Mode)
		if x.Mode != e.Mode && down != "" {
			changes++
		}
	}
	want(t, changes > 200, "the mode changed only %d times", changes)
}

func TestP54WantedInTheMiddleOfARow(t *testing.T) {
	c := flying()
	for turn := range 3 {
		for mode := range 2 {
			e := impl.ExecNew(c)
			e.Mode, e.Want, e.Turn = mode, mode, turn
			x, _, got := impl.ExecTick(c, e, cmdUp(c, e, asks(8, 1+mode, "")))
			want(t, len(got) == 1 && x.Want == 1-mode, "done is %v, %v", got, x)
			if turn > 0 {
				want(t, x.Mode == mode, "at the turn %d the mode is %d", turn, x.Mode)
				x = ticked(t, c, x, 2-turn)
				want(t, x.Mode == mode && x.Turn == 0, "from the turn %d to the end of the row the mode is %d", turn, x.Mode)
				x = ticked(t, c, x, 1)
			}
			want(t, x.Mode == 1-mode && x.Turn == 1, "from the turn %d on the mode is %d at %d", turn, x.Mode, x.Turn)
			want(t, ticked(t, c, x, 7).Mode == 1-mode, "the mode does not stay")
		}
	}
}

func TestP54TheRowOfTheModeThatBegins(t *testing.T) {
	more := []impl.Op{{Do: impl.OpMore, B: 1}}
	c := flying()
	c.Progs, c.Plain, c.Safe = [][]impl.Op{more, more}, []int{0, 0}, []int{1, 1}
	e := impl.ExecNew(c)
	x, _, _ := impl.ExecTick(c, e, cmdUp(c, e, asks(8, 1, "")))
	want(t, x.Mode == 1 && x.Parts[0].Cells[0] == 0 && x.Parts[1].Cells[0] == 1, "with the turn 0: %v", x)
	e.Turn = 1
	x, _, _ = impl.ExecTick(c, e, cmdUp(c, e, asks(8, 1, "")))
	want(t, x.Mode == 0 && x.Want == 1 && x.Parts[0].Cells[0] == 1 && x.Parts[1].Cells[0] == 0, "with the turn 1: %v", x)
}

func TestP55SafeModeLasts(t *testing.T) {
	dice := newDice(141)
	for range 300 {
		c := someFlying(dice)
		e := someExec(dice, c)
		e.Mode, e.Want, e.Now = 1, 1, e.Now%99979
		was := e
		for range 20 {
			x, down, got := impl.ExecTick(c, e, "")
			want(t, x.Mode == 1 && x.Want == 1 && len(got) == 0 && samePlan(x.Plan, was.Plan) && len(down) == 40, "%v becomes %v, done is %v", e, x, got)
			e = x
		}
	}
}

func TestP55WhatWaitsInSafeModeIsLate(t *testing.T) {
	c := flying()
	test := impl.CmdPut(asks(17, 1, ""))
	e := impl.ExecNew(c)
	e.Mode, e.Want = 1, 1
	e.Plan.Items = []impl.Item{{Time: 2, Text: test}, {Time: 3, Text: impl.CmdPut(sends(8, "\x00\x09"))}, {Time: 500, Text: test}}
	plan := e.Plan
	e = ticked(t, c, e, 9)
	want(t, samePlan(e.Plan, plan) && e.Turn == 0, "behind nine ticks: %v", e)
	x, _, got := impl.ExecTick(c, e, cmdUp(c, e, asks(8, 2, "")))
	want(t, x.Mode == 0 && len(got) == 1 && !got[0].Late && samePlan(x.Plan, plan), "plain again: %v, %v", x, got)
	y, _, got := impl.ExecTick(c, x, "")
	want(t, slices.Equal(got, []impl.Got{{Time: 11, Part: -1, Late: true, Cmd: asks(17, 1, "")}, {Time: 11, Part: 1, Late: true, Cmd: sends(8, "\x00\x09")}}), "late are %v", got)
	want(t, slices.Equal(y.Plan.Items, plan.Items[2:]) && y.Plan.On, "the plan is %v", y.Plan)
	x.Plan.On = false
	y, _, got = impl.ExecTick(c, x, "")
	want(t, len(got) == 0 && slices.Equal(y.Plan.Items, plan.Items[2:]) && !y.Plan.On, "not On late are %v, the plan is %v", got, y.Plan)
}

func TestP55DueAheadOfTheModeOfTheRow(t *testing.T) {
	c := flying()
	e := impl.ExecNew(c)
	e.Want, e.Plan.Items = 1, []impl.Item{{Time: 1, Text: impl.CmdPut(asks(17, 1, ""))}, {Time: 2, Text: "x"}}
	x, _, got := impl.ExecTick(c, e, "")
	want(t, x.Mode == 1 && len(got) == 1 && got[0].Late && len(x.Plan.Items) == 1, "it becomes %v, done is %v", x, got)
	y, _, got := impl.ExecTick(c, x, "")
	want(t, y.Mode == 1 && len(got) == 0 && len(y.Plan.Items) == 1, "then %v, done is %v", y, got)
}

func TestP57WhatIsDueIsDoneAsAnyCommand(t *testing.T) {
	c := flying()
	test, safe, off, none := impl.CmdPut(asks(17, 1, "")), impl.CmdPut(asks(8, 1, "")), impl.CmdPut(asks(11, 2, "")), impl.CmdPut(asks(11, 3, ""))
	put := impl.CmdPut(asks(11, 4, fourBytes(7)+"y"))
	shift := impl.CmdPut(asks(11, 5, fourBytes(10)))
	for i, k := range []struct {
		texts []string
		done  int
		on    bool
		left  []impl.Item
		codes string
	}{
		{[]string{test, "x", test}, 2, true, []impl.Item{{Time: 9, Text: "z"}}, "\x01"},
		{[]string{off, test}, 2, false, []impl.Item{{Time: 9, Text: "z"}}, ""},
		{[]string{none, test}, 2, true, nil, ""},
		{[]string{put, test}, 2, true, []impl.Item{{Time: 7, Text: "y"}, {Time: 9, Text: "z"}}, ""},
		{[]string{shift, shift}, 2, true, []impl.Item{{Time: 29, Text: "z"}}, ""},
		{[]string{safe, test}, 2, true, []impl.Item{{Time: 9, Text: "z"}}, ""},
		{[]string{impl.CmdPut(impl.Cmd{Service: 17, Sub: 1}), test}, 1, true, []impl.Item{{Time: 9, Text: "z"}}, "\x04"},
		{[]string{impl.CmdPut(asks(17, 2, "")), impl.CmdPut(sends(9, ""))}, 0, true, []impl.Item{{Time: 9, Text: "z"}}, "\x05\x05"},
	} {
		e := impl.ExecNew(c)
		e.Turn, e.Slot = 1, 1
		for _, text := range k.texts {
			e.Plan.Items = append(e.Plan.Items, impl.Item{Time: 1, Text: text})
		}
		e.Plan.Items = append(e.Plan.Items, impl.Item{Time: 9, Text: "z"})
		x, _, got := impl.ExecTick(c, e, "")
		want(t, len(got) == k.done && !slices.ContainsFunc(got, func(g impl.Got) bool { return !g.Late || g.Time != 1 }), "%d: done is %v", i, got)
		want(t, x.Plan.On == k.on && slices.Equal(x.Plan.Items, k.left), "%d: the plan is %v", i, x.Plan)
		codes := ""
		for _, pack := range x.Queues[0].Packs {
			r, _ := impl.RepGet(pack)
			if r.Service == 1 && r.Sub == 2 {
				codes += r.Data[4:]
			}
		}
		want(t, codes == k.codes, "%d: the codes are %q", i, codes)
	}
}

func TestP57WhatComesUpIsDoneAheadOfWhatIsDue(t *testing.T) {
	c := flying()
	e := impl.ExecNew(c)
	e.Plan.Items = []impl.Item{{Time: 1, Text: impl.CmdPut(sends(7, "\x00\x02"))}}
	up := cmdUp(c, e, sends(7, "\x00\x01"))
	_, _, got := impl.ExecTick(c, e, up)
	want(t, len(got) == 2 && got[0].Cmd.Data == "\x00\x01" && !got[0].Late && got[1].Cmd.Data == "\x00\x02" && got[1].Late, "done is %v", got)
	x, _, got := impl.ExecTick(c, e, cmdUp(c, e, asks(11, 3, "")))
	want(t, len(got) == 1 && len(x.Plan.Items) == 0, "with a plan that is forgotten: %v, %v", got, x.Plan)
	_, _, got = impl.ExecTick(c, e, cmdUp(c, e, asks(11, 2, "")))
	want(t, len(got) == 1, "with a plan that is not On: %v", got)
}

func TestP56WhatIsRaisedTooHigh(t *testing.T) {
	for _, limit := range []int{0, 1, 50, 9998, 9999} {
		for _, value := range []int{0, 1, limit - 1, limit, limit + 1, 9999} {
			if value < 0 || value > 9999 {
				continue
			}
			for _, do := range []int{impl.OpRaise, impl.OpTell} {
				for _, waiting := range []int{0, 7, 8, 9} {
					c := raising(limit, impl.Op{Do: impl.OpSet, B: value}, impl.Op{Do: do})
					e := impl.ExecNew(c)
					e.Queues[1] = fullQueue(waiting)
					x := ticked(t, c, e, 1)
					high := do == impl.OpRaise && value >= limit
					want(t, x.Mode == 0 && (x.Want == 1) == high, "with the limit %d and %d waiting, %d makes %v", limit, waiting, value, x)
					x = ticked(t, c, x, 1)
					want(t, x.Mode == 0 && x.Turn == 0, "in the middle of a row: %v", x)
					want(t, (ticked(t, c, x, 1).Mode == 1) == high, "with the limit %d, %d makes %v", limit, value, x)
				}
			}
		}
	}
}

func TestP56WantedJustByWhatIsRaisedOrFails(t *testing.T) {
	dice := newDice(142)
	seen := 0
	for range 4000 {
		c := someFlying(dice)
		e := someExec(dice, c)
		e.Want, e.Plan.Items, e.Now = 0, nil, e.Now%99999
		x, _, _ := impl.ExecTick(c, e, "")
		high := false
		if place := impl.ConfTurn(c, x.Mode, e.Turn); place >= 0 {
			p, _, said := impl.PartRun(e.Parts[place], x.Now, e.Ports, c.Budgets[place])
			high = p.Fails && !e.Parts[place].Fails || slices.ContainsFunc(said, func(s impl.Said) bool { return s.Raise && s.Value >= c.Limit })
		}
		want(t, (x.Want == 1) == high, "%v becomes %v", e, x)
		if high {
			seen++
		}
	}
	want(t, seen > 200, "only %d wanted safe mode", seen)
}

func TestP56OneOfManyIsTooHigh(t *testing.T) {
	c := raising(50, impl.Op{Do: impl.OpSet, B: 50}, impl.Op{Do: impl.OpRaise}, impl.Op{Do: impl.OpSet, B: 1}, impl.Op{Do: impl.OpRaise}, impl.Op{Do: impl.OpTell})
	x := ticked(t, c, impl.ExecNew(c), 1)
	var told []impl.Rep
	for _, pack := range x.Queues[1].Packs {
		r, _ := impl.RepGet(pack)
		told = append(told, r)
	}
	asked := []impl.Rep{{Apid: 7, Service: 5, Sub: 1, Time: 1, Data: "\x00\x32"}, {Apid: 7, Count: 1, Service: 5, Sub: 1, Time: 1, Data: "\x00\x01"}, {Apid: 7, Count: 2, Service: 3, Sub: 25, Time: 1, Data: "\x00\x01"}}
	want(t, x.Want == 1 && slices.Equal(told, asked) && x.Counts[1] == 3 && x.Counts[0] == 0, "it becomes %v, told is %v", x, told)
}

func TestP56ProgramsThatFail(t *testing.T) {
	far := []impl.Op{{Do: impl.OpSet, B: 8}, {Do: impl.OpTell}, {Do: impl.OpFar, A: 1}}
	c := plainConf()
	c.Progs, c.Apids, c.Budgets, c.Plain, c.Safe = [][]impl.Op{far, far, far}, []int{7, 8, 9}, []int{9, 9, 9}, []int{2, 1, 0}, []int{-1, -1, -1}
	for waiting := range 10 {
		for turn, place := range c.Plain {
			e := impl.ExecNew(c)
			e.Turn, e.Slot, e.Queues[0], e.Counts[0] = turn, 2, fullQueue(waiting), 16383
			x := ticked(t, c, e, 1)
			want(t, x.Want == 1 && x.Mode == 0 && x.Parts[place].Fails && x.Parts[place].At == 2, "the program %d fails: %v", place, x)
			want(t, lastTold(x, place+1) == impl.Rep{Apid: c.Apids[place], Service: 3, Sub: 25, Time: 1, Data: "\x00\x08"} || place == 1, "told ahead is %v", lastTold(x, place+1))
			if waiting < 8 {
				want(t, lastTold(x, 0) == impl.Rep{Count: 16383, Service: 5, Sub: 4, Time: 1, Data: string([]byte{byte(place)})} && x.Counts[0] == 0, "told is %v", lastTold(x, 0))
			} else {
				want(t, sameQueue(x.Queues[0], e.Queues[0]) && x.Counts[0] == 16383, "without room there is told %v", x.Queues[0])
			}
		}
	}
}

func TestP56OneThatFailedAhead(t *testing.T) {
	c := raising(0, impl.Op{Do: impl.OpFar, A: 1}, impl.Op{Do: impl.OpRaise})
	e := impl.ExecNew(c)
	e.Parts[0].Cells[0], e.Parts[0].Fails = 8, true
	x := ticked(t, c, e, 9)
	want(t, x.Want == 0 && x.Mode == 0 && samePart(x.Parts[0], e.Parts[0]) && slices.Equal(x.Counts, []int{0, 0}), "one that failed ahead makes %v", x)
}

func TestP56NothingWhenItIsNotItsTurn(t *testing.T) {
	c := raising(0, impl.Op{Do: impl.OpRaise})
	e := impl.ExecNew(c)
	e.Turn = 1
	x := ticked(t, c, e, 1)
	want(t, x.Want == 0 && x.Counts[1] == 0, "in nobody's turn %v comes", x)
	e.Mode, e.Turn = 1, 0
	x = ticked(t, c, e, 1)
	want(t, x.Mode == 0 && x.Want == 1, "where the row begins %v comes", x)
}

func TestP60TheFirstRunsAlone(t *testing.T) {
	dice := newDice(143)
	alone := 0
	for range 400 {
		c := someFlying(dice)
		for i, op := range c.Progs[0] {
			if op.Do == impl.OpIn || op.Do == impl.OpOut {
				c.Progs[0][i] = impl.Op{Do: impl.OpMore, A: op.A, B: 1}
			}
		}
		a := someExec(dice, c)
		a.Plan.Items, a.Now = nil, a.Now%99000
		b := cloneExec(a)
		for i := 1; i < len(b.Parts); i++ {
			b.Parts[i].Cells, b.Parts[i].Box, b.Parts[i].At = someValues(dice, 8), someValues(dice, dice.Intn(5)), dice.Intn(len(b.Parts[i].Prog))
			b.Parts[i].Fails = dice.Intn(4) == 0
		}
		b.Ports = someValues(dice, 4)
		for range 30 {
			a, b = ticked(t, c, a, 1), ticked(t, c, b, 1)
			if a.Mode != b.Mode {
				break
			}
			want(t, samePart(a.Parts[0], b.Parts[0]) && sameQueue(a.Queues[1], b.Queues[1]) && a.Counts[1] == b.Counts[1], "the first program is %v, beside others %v", a.Parts[0], b.Parts[0])
			alone++
		}
	}
	want(t, alone > 3000, "only %d ticks were in one mode", alone)
}

func TestP53WhatIsToldGoesDown(t *testing.T) {
	c := flying()
	c.Progs[0] = []impl.Op{{Do: impl.OpTime}, {Do: impl.OpTell}}
	e := impl.ExecNew(c)
	hears := make([]impl.Hears, 3)
	var told []impl.Rep
	for n := range 600 {
		up := ""
		if n%20 == 0 {
			up = cmdUp(c, e, asks(17, 1, ""))
		}
		x, down, got := impl.ExecTick(c, e, up)
		want(t, len(got) == 1 == (n%20 == 0), "at %d done is %v", n, got)
		d, _ := impl.DownGet(down)
		h, packs := impl.HearsDown(hears[d.Who], d)
		hears[d.Who] = h
		for _, pack := range packs {
			r, ok := impl.RepGet(pack)
			want(t, ok, "%q is no telling", pack)
			told = append(told, r)
		}
		e = x
	}
	counts := map[int]int{}
	for _, r := range told {
		want(t, r.Count == counts[r.Apid], "the packet %v is not the one with %d", r, counts[r.Apid])
		counts[r.Apid]++
	}
	want(t, counts[0] >= 58 && counts[7] >= 140 && len(counts) == 2, "told are %v", counts)
}
