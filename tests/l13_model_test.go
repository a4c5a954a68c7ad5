package tests

import (
	"math/rand"
	"slices"
	"strings"

	"loop.example/skyway/impl"
)

// plainTell lets somebody tell something, as the document says it.
func plainTell(c impl.Conf, e *impl.Exec, who int, service int, sub int, data string) {
	if len(e.Queues[who].Packs) >= 8 {
		return
	}
	apid := append([]int{0}, c.Apids...)[who]
	text := string([]byte{32, byte(service), byte(sub)}) + twoBytes(e.Now/65536) + twoBytes(e.Now%65536) + data
	e.Queues[who].Packs = append(e.Queues[who].Packs, plainPacket(false, apid, e.Counts[who], text))
	e.Counts[who]++
	if e.Counts[who] > 16383 {
		e.Counts[who] = 0
	}
}

// plainOwn does what is asked of the craft itself, and says whether it could, as the document says it.
func plainOwn(c impl.Conf, e *impl.Exec, service int, sub int, data string) bool {
	number := func() int {
		return int(data[0])<<24 + int(data[1])<<16 + int(data[2])<<8 + int(data[3])
	}
	code := 0
	switch {
	case service == 8 && sub == 1 && data == "":
		e.Want = 1
	case service == 8 && sub == 2 && data == "":
		e.Want = 0
	case service == 17 && sub == 1 && data == "":
		plainTell(c, e, 0, 17, 2, "")
	case service == 11 && sub == 1 && data == "":
		e.Plan.On = true
	case service == 11 && sub == 2 && data == "":
		e.Plan.On = false
	case service == 11 && sub == 3 && data == "":
		e.Plan.Items = nil
	case service == 11 && sub == 4 && len(data) > 4:
		e.Plan, code = plainPut(e.Plan, e.Now, number(), data[4:])
	case service == 11 && sub == 5 && len(data) == 4:
		e.Plan, code = plainShift(e.Plan, e.Now, number())
	default:
		code = 5
	}
	return code == 0
}

// plainAsk is the code of a command, and who did it, as the document says it.
func plainAsk(c impl.Conf, e *impl.Exec, cmd impl.Cmd) (int, int) {
	if !plainLet(c.Rules, e.Mode, cmd) {
		return 4, 0
	}
	if cmd.Apid == 0 {
		if plainOwn(c, e, cmd.Service, cmd.Sub, cmd.Data) {
			return 0, -1
		}
		return 5, 0
	}
	part := slices.Index(c.Apids, cmd.Apid)
	if part < 0 || len(cmd.Data) != 2 || int(cmd.Data[0])*256+int(cmd.Data[1]) > 9999 {
		return 5, 0
	}
	if len(e.Parts[part].Box) == 4 {
		return 6, 0
	}
	e.Parts[part].Box = append(e.Parts[part].Box, int(cmd.Data[0])*256+int(cmd.Data[1]))
	return 0, part
}

// plainDo does a command in bytes, as the document says it.
func plainDo(c impl.Conf, e *impl.Exec, text string, late bool) []impl.Got {
	var cmd impl.Cmd
	code, part := plainCmdCode(text), 0
	if code == 0 {
		cmd = impl.Cmd{
			Apid: (int(text[0])*256 + int(text[1])) % 2048, Count: (int(text[2])*256 + int(text[3])) % 16384,
			Source: int(text[9]), Service: int(text[7]), Sub: int(text[8]), Data: text[10 : len(text)-2],
		}
		code, part = plainAsk(c, e, cmd)
	}
	which := twoBytes(cmd.Apid) + twoBytes(cmd.Count)
	if code != 0 {
		plainTell(c, e, 0, 1, 2, which+string([]byte{byte(code)}))
		return nil
	}
	plainTell(c, e, 0, 1, 1, which)
	return []impl.Got{{Time: e.Now, Part: part, Late: late, Cmd: cmd}}
}

// plainUp hears what came up, as the document says it; what lower layers read is taken from them.
func plainUp(c impl.Conf, e *impl.Exec, up string) []impl.Got {
	f, ok := impl.FrameGet(impl.CltuRead(up))
	if !ok || f.Craft != c.Craft || f.Via != c.Via {
		return nil
	}
	e.Farm.Waits = false
	code := 0
	switch {
	case f.Govern:
		e.Farm, code = impl.FarmHear(e.Farm, f, true)
	case f.Past:
		e.Farm = counted(e.Farm)
	default:
		e.Farm, code = plainHear(e.Farm, f.Seq, true)
	}
	if code != 0 {
		return nil
	}
	text := ""
	e.Join, text = plainSegHear(e.Join, f.Data, c.Via)
	if text == "" {
		return nil
	}
	return plainDo(c, e, text, false)
}

// plainTurn lets the program run whose turn it is, as the document says it.
func plainTurn(c impl.Conf, e *impl.Exec) {
	if e.Turn == 0 {
		e.Mode = e.Want
	}
	place := [][]int{c.Plain, c.Safe}[e.Mode][e.Turn]
	e.Turn++
	if e.Turn == len(c.Plain) {
		e.Turn = 0
	}
	if place < 0 || e.Parts[place].Fails {
		return
	}
	goes := true
	for n := 0; n < c.Budgets[place] && goes; n++ {
		var said []impl.Said
		e.Parts[place], e.Ports, said, goes = plainStep(e.Parts[place], e.Now, e.Ports)
		for _, s := range said {
			if !s.Raise {
				plainTell(c, e, place+1, 3, 25, twoBytes(s.Value))
				continue
			}
			plainTell(c, e, place+1, 5, 1, twoBytes(s.Value))
			if s.Value >= c.Limit {
				e.Want = 1
			}
		}
	}
	if e.Parts[place].Fails {
		plainTell(c, e, 0, 5, 4, string([]byte{byte(place)}))
		e.Want = 1
	}
}

// plainTick is a tick of a craft that is ok, as the document says it.
func plainTick(c impl.Conf, e impl.Exec, up string) (impl.Exec, string, []impl.Got) {
	e = cloneExec(e)
	if e.Now == 99999 || len(up) > 400 {
		return e, "", nil
	}
	e.Now++
	got := plainUp(c, &e, up)
	if e.Mode == 0 {
		var texts []string
		e.Plan, texts = plainDue(e.Plan, e.Now)
		for _, text := range texts {
			got = append(got, plainDo(c, &e, text, true)...)
		}
	}
	plainTurn(c, &e)
	who := c.Down[e.Slot]
	d := impl.Down{Craft: c.Craft, Who: who, All: e.All, Own: e.Owns[who], Farm: impl.FarmPut(e.Farm)}
	e.Queues[who], d.Data, d.First = plainFill(e.Queues[who])
	e.All, e.Owns[who], e.Slot = (e.All+1)%256, (e.Owns[who]+1)%256, (e.Slot+1)%len(c.Down)
	return e, plainDown(d), got
}

// cloneExec is a craft in memory of its own.
func cloneExec(e impl.Exec) impl.Exec {
	e.Plan.Items = slices.Clone(e.Plan.Items)
	e.Parts = slices.Clone(e.Parts)
	for i, p := range e.Parts {
		e.Parts[i] = clonePart(p)
	}
	e.Queues = slices.Clone(e.Queues)
	for i, q := range e.Queues {
		e.Queues[i].Packs = slices.Clone(q.Packs)
	}
	e.Ports, e.Counts, e.Owns = slices.Clone(e.Ports), slices.Clone(e.Counts), slices.Clone(e.Owns)
	return e
}

// sameExec says whether two crafts are the same.
func sameExec(a impl.Exec, b impl.Exec) bool {
	return a.Now == b.Now && a.Mode == b.Mode && a.Want == b.Want && a.Turn == b.Turn && a.Farm == b.Farm && a.Join == b.Join &&
		samePlan(a.Plan, b.Plan) && slices.EqualFunc(a.Parts, b.Parts, samePart) && slices.Equal(a.Ports, b.Ports) &&
		slices.EqualFunc(a.Queues, b.Queues, sameQueue) && slices.Equal(a.Counts, b.Counts) && slices.Equal(a.Owns, b.Owns) &&
		a.All == b.All && a.Slot == b.Slot
}

// isNoExec says whether a craft is nothing at all.
func isNoExec(e impl.Exec) bool {
	return sameExec(e, impl.Exec{})
}

// ownAsks are all that a craft may be asked for itself, and one thing that there is not.
func ownAsks() []impl.Rule {
	return []impl.Rule{
		{Service: 8, Sub: 1}, {Service: 8, Sub: 2}, {Service: 17, Sub: 1}, {Service: 17, Sub: 2},
		{Service: 11, Sub: 1}, {Service: 11, Sub: 2}, {Service: 11, Sub: 3}, {Service: 11, Sub: 4}, {Service: 11, Sub: 5},
	}
}

// someFlying is how a craft is made, with rules by which the source 1 may ask it for most things.
func someFlying(dice *rand.Rand) impl.Conf {
	c := someConf(dice)
	c.Limit = []int{0, 1, 8, 9998, 9999, dice.Intn(10000)}[dice.Intn(6)]
	rules := ownAsks()
	for _, apid := range c.Apids {
		rules = append(rules, impl.Rule{Apid: apid, Service: 8, Sub: 1})
	}
	for i := range rules {
		rules[i].Source = 1
		rules[i].Plain, rules[i].Safe = dice.Intn(6) > 0, dice.Intn(3) > 0
	}
	c.Rules = rules
	return c
}

// someNumber is a number in four bytes that may be a time a little behind now.
func someNumber(dice *rand.Rand, now int) string {
	n := max(0, []int{now, now + 1, now + 2, now + dice.Intn(20), now - 1, 99999, 100000, 1 << 31, 0, 1, 2, 3}[dice.Intn(12)])
	return twoBytes(n/65536) + twoBytes(n%65536)
}

// someAsk is a command that a craft can mostly do, in bytes.
func someAsk(dice *rand.Rand, c impl.Conf, now int) string {
	if len(c.Rules) == 0 {
		return impl.CmdPut(someCmd(dice))
	}
	r := c.Rules[dice.Intn(len(c.Rules))]
	cmd := impl.Cmd{Apid: r.Apid, Count: dice.Intn(16384), Source: r.Source, Service: r.Service, Sub: r.Sub}
	switch {
	case dice.Intn(9) == 0:
		cmd.Data = someText(dice, dice.Intn(7))
	case r.Apid != 0:
		cmd.Data = twoBytes(someValues(dice, 1)[0])
	case r.Service == 11 && r.Sub == 4:
		rule := c.Rules[dice.Intn(len(c.Rules))]
		late := impl.Cmd{Apid: rule.Apid, Count: dice.Intn(99), Source: 1, Service: rule.Service, Sub: rule.Sub}
		if rule.Apid != 0 {
			late.Data = "\x00\x09"
		}
		cmd.Data = someNumber(dice, now) + impl.CmdPut(late)
	case r.Service == 11 && r.Sub == 5:
		cmd.Data = someNumber(dice, dice.Intn(4))
	}
	switch dice.Intn(20) {
	case 0:
		cmd.Source ^= 2
	case 1:
		cmd.Apid = 2047
	case 2:
		text := impl.CmdPut(cmd)
		return turned(text, dice.Intn(len(text)), 1<<dice.Intn(8))
	}
	return impl.CmdPut(cmd)
}

// somePlanned is a plan that is ok, of commands about a time.
func somePlanned(dice *rand.Rand, c impl.Conf, now int) impl.Plan {
	p := impl.Plan{On: dice.Intn(4) > 0}
	for range dice.Intn(7) {
		text := someAsk(dice, c, now)
		p.Items = append(p.Items, impl.Item{Time: min(99999, max(0, now-3+dice.Intn(9))), Text: text[:min(len(text), 60)]})
	}
	slices.SortStableFunc(p.Items, func(a impl.Item, b impl.Item) int { return a.Time - b.Time })
	return p
}

// someExec is a craft that runs, and is ok.
func someExec(dice *rand.Rand, c impl.Conf) impl.Exec {
	farms, joins := okFarms(0, 255, dice.Intn(256)), okJoins()
	e := impl.Exec{
		Now: []int{0, 1, 99997, 99998, 99999, dice.Intn(100000), dice.Intn(100000), dice.Intn(100000)}[dice.Intn(8)], Mode: dice.Intn(2), Want: dice.Intn(2),
		Turn: dice.Intn(len(c.Plain)), Slot: dice.Intn(len(c.Down)), All: []int{0, 255, dice.Intn(256)}[dice.Intn(3)],
		Farm: farms[dice.Intn(len(farms))], Join: joins[dice.Intn(len(joins))], Ports: someValues(dice, 4),
	}
	if dice.Intn(2) == 0 {
		e.Farm.Shut = false
	}
	e.Plan = somePlanned(dice, c, e.Now)
	for _, prog := range c.Progs {
		p := someRunning(dice)
		p.Prog, p.At = slices.Clone(prog), dice.Intn(len(prog))
		e.Parts = append(e.Parts, p)
	}
	for range len(c.Progs) + 1 {
		e.Queues = append(e.Queues, someQueue(dice))
		e.Counts = append(e.Counts, []int{0, 16382, 16383, dice.Intn(16384)}[dice.Intn(4)])
		e.Owns = append(e.Owns, []int{0, 255, dice.Intn(256)}[dice.Intn(3)])
	}
	return e
}

// upOf is a part on its way up, as a frame in order.
func upOf(c impl.Conf, seq int, part string) string {
	return impl.CltuPut(impl.FramePut(impl.Frame{Craft: c.Craft, Via: c.Via, Seq: seq % 256, Data: part}))
}

// cmdUp is a short command on its way up, in one part, as the frame that is the next one.
func cmdUp(c impl.Conf, e impl.Exec, cmd impl.Cmd) string {
	return upOf(c, e.Farm.Next, impl.SegCut(impl.CmdPut(cmd), c.Via)[0])
}

// someUp is something that comes up: mostly the next frame, with a part of a command.
func someUp(dice *rand.Rand, c impl.Conf, e impl.Exec) string {
	parts := impl.SegCut(someAsk(dice, c, e.Now), c.Via)
	f := impl.Frame{Craft: c.Craft, Via: c.Via, Seq: e.Farm.Next, Data: parts[dice.Intn(len(parts))]}
	switch dice.Intn(24) {
	case 0:
		f.Craft ^= 1
	case 1:
		f.Via ^= 1
	case 2:
		f.Seq = (f.Seq + 1 + dice.Intn(255)) % 256
	case 3, 4:
		f.Past, f.Seq = true, dice.Intn(256)
	case 5:
		f = impl.FarmOpen(c.Craft, c.Via)
	case 6:
		f = impl.FarmSet(c.Craft, c.Via, dice.Intn(256))
	case 7:
		f.Past, f.Govern = true, true
	case 8:
		f.Data = someText(dice, 1+dice.Intn(53))
	}
	text := impl.CltuPut(impl.FramePut(f))
	switch dice.Intn(16) {
	case 0:
		return ""
	case 1:
		return turned(text, dice.Intn(len(text)), 1<<dice.Intn(8))
	case 2:
		return "x" + text
	case 3:
		return (text + strings.Repeat("\xc5", 401))[:399+dice.Intn(3)]
	case 4:
		return text[:dice.Intn(len(text))]
	}
	return text
}
