package tests

import (
	"slices"
	"strings"
	"testing"

	"loop.example/skyway/impl"
)

// flying is a craft with two programs, whose source 1 may ask for all that there is in both modes; each call makes a new one.
func flying() impl.Conf {
	c := plainConf()
	c.Rules = append(ownAsks(), impl.Rule{Apid: 7, Service: 8, Sub: 1}, impl.Rule{Apid: 8, Service: 8, Sub: 1}, impl.Rule{Apid: 9, Service: 8, Sub: 1})
	for i := range c.Rules {
		c.Rules[i].Source, c.Rules[i].Plain, c.Rules[i].Safe = 1, true, true
	}
	return c
}

// letting is flying, with one rule alone.
func letting(r impl.Rule) impl.Conf {
	c := plainConf()
	c.Rules = []impl.Rule{r}
	return c
}

// asks is a command of the source 1 to the craft itself.
func asks(service int, sub int, data string) impl.Cmd {
	return impl.Cmd{Count: 300, Source: 1, Service: service, Sub: sub, Data: data}
}

// sends is a command of the source 1 to a program.
func sends(apid int, data string) impl.Cmd {
	return impl.Cmd{Apid: apid, Count: 258, Source: 1, Service: 8, Sub: 1, Data: data}
}

// fourBytes is a number in four bytes.
func fourBytes(n int) string {
	return twoBytes(n/65536) + twoBytes(n%65536)
}

// lastTold is what somebody told last.
func lastTold(e impl.Exec, who int) impl.Rep {
	packs := e.Queues[who].Packs
	if len(packs) == 0 {
		return impl.Rep{}
	}
	r, _ := impl.RepGet(packs[len(packs)-1])
	return r
}

// checked is what a craft tells of a command at a time: that it was done, or the code.
func checked(count int, time int, cmd impl.Cmd, code int) impl.Rep {
	r := impl.Rep{Count: count, Service: 1, Sub: 1, Time: time, Data: twoBytes(cmd.Apid) + twoBytes(cmd.Count)}
	if code != 0 {
		r.Sub = 2
		r.Data += string([]byte{byte(code)})
	}
	return r
}

// fullQueue is a queue with so many packets.
func fullQueue(count int) impl.Queue {
	return impl.Queue{Packs: packsOf(slices.Repeat([]int{30}, count)...)}
}

// badExecs are crafts made by flying that are not ok, each by one field.
func badExecs() []impl.Exec {
	var list []impl.Exec
	change := func(f func(e *impl.Exec)) {
		e := impl.ExecNew(flying())
		f(&e)
		list = append(list, e)
	}
	list = append(list, impl.Exec{})
	for _, n := range append(farNumbers(), -1, -2) {
		for at := range 6 {
			change(func(e *impl.Exec) { *[]*int{&e.Now, &e.Mode, &e.Want, &e.Turn, &e.All, &e.Slot}[at] = n })
		}
		change(func(e *impl.Exec) { e.Counts[0] = n })
		change(func(e *impl.Exec) { e.Counts[2] = n })
		change(func(e *impl.Exec) { e.Owns[0] = n })
		change(func(e *impl.Exec) { e.Owns[2] = n })
	}
	for at, n := range []int{100000, 2, 2, 3, 256, 4} {
		change(func(e *impl.Exec) { *[]*int{&e.Now, &e.Mode, &e.Want, &e.Turn, &e.All, &e.Slot}[at] = n })
	}
	change(func(e *impl.Exec) { e.Counts[1] = 16384 })
	change(func(e *impl.Exec) { e.Owns[1] = 256 })
	for _, f := range badFarms() {
		change(func(e *impl.Exec) { e.Farm = f })
	}
	for _, j := range badJoins() {
		change(func(e *impl.Exec) { e.Join = j })
	}
	for _, p := range badPlans() {
		change(func(e *impl.Exec) { e.Plan = p })
	}
	for _, ports := range badPorts() {
		change(func(e *impl.Exec) { e.Ports = ports })
	}
	return append(list, badLists()...)
}

// badLists are crafts made by flying whose programs or queues are not ok, or of whose lists there is one too few or too many.
func badLists() []impl.Exec {
	var list []impl.Exec
	change := func(f func(e *impl.Exec)) {
		e := impl.ExecNew(flying())
		f(&e)
		list = append(list, e)
	}
	for at := range 2 {
		for _, p := range badParts() {
			change(func(e *impl.Exec) {
				// With its own program the others' faults are all that is wrong.
				if impl.ProgOk(p.Prog) {
					p.Prog = e.Parts[at].Prog
				}
				e.Parts[at] = p
			})
		}
		change(func(e *impl.Exec) { e.Parts[at] = impl.PartNew([]impl.Op{{Do: impl.OpRest}}) })
		change(func(e *impl.Exec) { e.Parts[at].Prog[0].A = 1 })
	}
	change(func(e *impl.Exec) { e.Parts[0], e.Parts[1] = e.Parts[1], e.Parts[0] })
	for at := range 3 {
		for _, q := range badQueues() {
			change(func(e *impl.Exec) { e.Queues[at] = q })
		}
	}
	change(func(e *impl.Exec) { e.Parts = nil })
	change(func(e *impl.Exec) { e.Parts = e.Parts[:1] })
	change(func(e *impl.Exec) { e.Parts = append(e.Parts, e.Parts[0]) })
	change(func(e *impl.Exec) { e.Queues = nil })
	change(func(e *impl.Exec) { e.Queues = e.Queues[:2] })
	change(func(e *impl.Exec) { e.Queues = append(e.Queues, impl.Queue{}) })
	for at := range 2 {
		change(func(e *impl.Exec) { *[]*[]int{&e.Counts, &e.Owns}[at] = nil })
		change(func(e *impl.Exec) { *[]*[]int{&e.Counts, &e.Owns}[at] = []int{0, 0} })
		change(func(e *impl.Exec) { *[]*[]int{&e.Counts, &e.Owns}[at] = []int{0, 0, 0, 0} })
	}
	return list
}

// execIsNothing holds both calls to answer nothing.
func execIsNothing(t *testing.T, c impl.Conf, e impl.Exec) {
	t.Helper()
	want(t, !impl.ExecOk(c, e), "%v is ok", e)
	for _, up := range []string{"", cmdUp(flying(), impl.Exec{}, asks(17, 1, "")), strings.Repeat("x", 401)} {
		x, down, got := impl.ExecTick(c, e, up)
		want(t, isNoExec(x) && down == "" && len(got) == 0, "ExecTick(%v, %v, %q) is %v, %q, %v", c, e, up, x, down, got)
	}
	for _, text := range []string{"", impl.CmdPut(asks(17, 1, "")), strings.Repeat("x", 107)} {
		x, got := impl.ExecCmd(c, e, text)
		want(t, isNoExec(x) && len(got) == 0, "ExecCmd(%v, %v, %q) is %v, %v", c, e, text, x, got)
	}
}

func TestP59CraftsThatBegin(t *testing.T) {
	for _, c := range append(rightConfs(), flying()) {
		e := impl.ExecNew(c)
		tellers := len(c.Progs) + 1
		asked := impl.Exec{Plan: impl.Plan{On: true}, Ports: make([]int, 4), Queues: make([]impl.Queue, tellers), Counts: make([]int, tellers), Owns: make([]int, tellers)}
		for _, prog := range c.Progs {
			asked.Parts = append(asked.Parts, impl.Part{Prog: prog, Cells: make([]int, 8)})
		}
		want(t, sameExec(e, asked) && impl.ExecOk(c, e), "ExecNew(%v) is %v", c, e)
	}
	for _, faults := range confFaults() {
		for _, f := range faults {
			c := plainConf()
			f(&c)
			want(t, isNoExec(impl.ExecNew(c)), "ExecNew(%v) is %v", c, impl.ExecNew(c))
		}
	}
	want(t, isNoExec(impl.ExecNew(impl.Conf{})), "ExecNew of nothing is %v", impl.ExecNew(impl.Conf{}))
}

func TestP59CraftsThatAreOk(t *testing.T) {
	dice := newDice(131)
	for _, c := range rightConfs() {
		for range 4 {
			e := someExec(dice, c)
			want(t, impl.ExecOk(c, e), "%v is not ok", e)
		}
	}
	c := fullConf()
	full := slices.Repeat([]int{9999}, 8)
	e := impl.ExecNew(c)
	e.Now, e.Mode, e.Want, e.Turn, e.All, e.Slot = 99999, 1, 1, 7, 255, 7
	e.Farm, e.Join = impl.Farm{Shut: true, Waits: true, Again: true, Count: 3, Next: 255}, impl.Join{Open: true, Text: strings.Repeat("x", 106)}
	e.Plan, e.Ports = planAt(99999, 99999, 99999, 99999, 99999, 99999), full[:4]
	e.Counts, e.Owns = slices.Repeat([]int{16383}, 4), slices.Repeat([]int{255}, 4)
	for i := range e.Parts {
		e.Parts[i] = impl.Part{Prog: c.Progs[i], Cells: full, At: 15, Fails: true, Box: full[:4]}
	}
	for i := range e.Queues {
		e.Queues[i] = impl.Queue{Packs: packsOf(106, 106, 106, 106, 106, 106, 106, 106, 106), Sent: 105}
	}
	want(t, impl.ExecOk(c, e), "%v is not ok", e)
}

func TestP53To61CraftsThatAreNotOk(t *testing.T) {
	for _, e := range badExecs() {
		execIsNothing(t, flying(), e)
	}
	for _, faults := range confFaults() {
		for _, f := range faults {
			c := plainConf()
			e := impl.ExecNew(c)
			f(&c)
			execIsNothing(t, c, e)
		}
	}
	execIsNothing(t, impl.Conf{}, impl.Exec{})
	execIsNothing(t, flying(), impl.ExecNew(fullConf()))
}

func TestP57CommandsJustAsAsked(t *testing.T) {
	dice := newDice(132)
	done := 0
	for range 6000 {
		c := someFlying(dice)
		e := someExec(dice, c)
		text := someAsk(dice, c, e.Now)
		if dice.Intn(20) == 0 {
			text = someText(dice, dice.Intn(107))
		}
		x, got := impl.ExecCmd(c, e, text)
		asked := cloneExec(e)
		expected := plainDo(c, &asked, text, false)
		want(t, sameExec(x, asked) && slices.Equal(got, expected), "ExecCmd(%v, %v, %q) is %v, %v", c, e, text, x, got)
		want(t, impl.ExecOk(c, x), "%v is not ok", x)
		cmd, code := impl.CmdGet(text)
		if len(got) > 0 {
			want(t, len(got) == 1 && code == 0 && got[0].Cmd == cmd && impl.RulesLet(c.Rules, e.Mode, cmd), "done is %v, of %q", got, text)
			done++
			continue
		}
		x.Queues, x.Counts = e.Queues, e.Counts
		want(t, sameExec(x, e), "without anything done %v became %v", e, x)
	}
	want(t, done > 1500, "only %d were done", done)
}

func TestP57EachServiceOfTheCraft(t *testing.T) {
	inner := impl.CmdPut(asks(17, 1, ""))
	for _, k := range []struct {
		service, sub int
		data         string
		done         bool
		changes      func(e *impl.Exec)
	}{
		{8, 1, "", true, func(e *impl.Exec) { e.Want = 1 }}, {8, 1, "\x00", false, nil}, {8, 2, "", true, func(e *impl.Exec) { e.Want = 0 }}, {8, 2, "x", false, nil},
		{17, 1, "", true, nil}, {17, 1, "\x00", false, nil}, {17, 2, "", false, nil},
		{11, 1, "", true, func(e *impl.Exec) { e.Plan.On = true }}, {11, 1, "\x00", false, nil}, {11, 2, "", true, func(e *impl.Exec) { e.Plan.On = false }}, {11, 2, "x", false, nil},
		{11, 3, "", true, func(e *impl.Exec) { e.Plan.Items = nil }}, {11, 3, "x", false, nil},
		{11, 4, "", false, nil}, {11, 4, fourBytes(90)[:3], false, nil}, {11, 4, fourBytes(90), false, nil},
		{11, 4, fourBytes(90) + "x", true, func(e *impl.Exec) { e.Plan.Items = append(e.Plan.Items, impl.Item{Time: 90, Text: "x"}) }},
		{11, 4, fourBytes(99999) + inner, true, func(e *impl.Exec) { e.Plan.Items = append(e.Plan.Items, impl.Item{Time: 99999, Text: inner}) }},
		{11, 4, fourBytes(51) + strings.Repeat("d", 56), true, func(e *impl.Exec) {
			e.Plan.Items = slices.Insert(e.Plan.Items, 0, impl.Item{Time: 51, Text: strings.Repeat("d", 56)})
		}},
		{11, 4, fourBytes(50) + "x", false, nil}, {11, 4, fourBytes(0) + "x", false, nil}, {11, 4, fourBytes(100000) + "x", false, nil}, {11, 4, "\xff\xff\xff\xff" + "x", false, nil},
		{11, 5, "", false, nil}, {11, 5, fourBytes(5)[1:], false, nil}, {11, 5, fourBytes(5) + "x", false, nil}, {11, 5, fourBytes(5) + inner, false, nil},
		{11, 5, fourBytes(5), true, func(e *impl.Exec) { e.Plan.Items[0].Time, e.Plan.Items[1].Time = 65, 75 }}, {11, 5, fourBytes(0), true, nil},
		{11, 5, fourBytes(99929), true, func(e *impl.Exec) { e.Plan.Items[0].Time, e.Plan.Items[1].Time = 99989, 99999 }}, {11, 5, fourBytes(99930), false, nil},
		{11, 5, fourBytes(99999), false, nil}, {11, 5, fourBytes(100000), false, nil}, {11, 5, "\xff\xff\xff\xfb", false, nil},
	} {
		for n := range 8 {
			c := letting(impl.Rule{Source: 1, Service: k.service, Sub: k.sub, Plain: true, Safe: true})
			e := impl.ExecNew(c)
			e.Now, e.Mode, e.Want, e.Plan = 50, n&1, n>>1&1, planAt(60, 70)
			e.Plan.On = n>>2 == 1
			cmd := asks(k.service, k.sub, k.data)
			x, got := impl.ExecCmd(c, e, impl.CmdPut(cmd))
			asked, code := cloneExec(e), 5
			if k.done {
				want(t, slices.Equal(got, []impl.Got{{Time: 50, Part: -1, Cmd: cmd}}), "%v: done is %v", cmd, got)
				code = 0
			} else {
				want(t, len(got) == 0, "%v: done is %v", cmd, got)
			}
			if k.changes != nil {
				k.changes(&asked)
			}
			if k.service == 17 && k.done {
				asked.Queues[0].Packs = []string{impl.RepPut(impl.Rep{Service: 17, Sub: 2, Time: 50})}
				asked.Counts[0]++
			}
			asked.Queues[0].Packs = append(asked.Queues[0].Packs, impl.RepPut(checked(asked.Counts[0], 50, cmd, code)))
			asked.Counts[0]++
			want(t, sameExec(x, asked), "ExecCmd of %v makes %v into %v", cmd, e, x)
		}
	}
}

func TestP57ServicesThatThereAreNot(t *testing.T) {
	numbers := []int{0, 1, 2, 3, 4, 5, 6, 7, 8, 9, 10, 11, 12, 16, 17, 18, 25, 128, 255}
	for _, service := range numbers {
		for _, sub := range numbers {
			is := slices.ContainsFunc(ownAsks(), func(r impl.Rule) bool { return r.Service == service && r.Sub == sub }) && !(service == 17 && sub == 2)
			c := letting(impl.Rule{Source: 1, Service: service, Sub: sub, Plain: true})
			for _, data := range []string{"", fourBytes(3), fourBytes(3) + "x", "\x00\x09"} {
				asked := is && (data == "" && !(service == 11 && sub > 3) || service == 11 && sub == 4 && len(data) == 5 || service == 11 && sub == 5 && len(data) == 4)
				cmd := asks(service, sub, data)
				x, got := impl.ExecCmd(c, impl.ExecNew(c), impl.CmdPut(cmd))
				want(t, (len(got) == 1) == asked, "%v: done is %v", cmd, got)
				want(t, asked || lastTold(x, 0) == checked(0, 0, cmd, 5), "%v: told is %v", cmd, lastTold(x, 0))
			}
		}
	}
}

func TestP57CommandsToPrograms(t *testing.T) {
	c := flying()
	for _, k := range []struct {
		apid  int
		data  string
		code  int
		value int
	}{
		{7, "\x00\x00", 0, 0}, {8, "\x00\x01", 0, 1}, {7, "\x27\x0f", 0, 9999}, {8, "\x27\x0f", 0, 9999}, {7, "\x01\x02", 0, 258},
		{7, "\x27\x10", 5, 0}, {8, "\xff\xff", 5, 0}, {7, "", 5, 0}, {7, "\x09", 5, 0}, {8, "\x00\x00\x09", 5, 0}, {8, "\x00\x09\x00\x09", 5, 0}, {7, strings.Repeat("\x00", 60), 5, 0},
		{9, "\x00\x09", 5, 0}, {9, "", 5, 0}, {10, "\x00\x09", 4, 0}, {2047, "\x00\x09", 4, 0},
	} {
		for size := range 5 {
			e := impl.ExecNew(c)
			for i := range e.Parts {
				e.Parts[i].Box = []int{1, 2, 3, 4}[:size]
			}
			cmd := sends(k.apid, k.data)
			x, got := impl.ExecCmd(c, e, impl.CmdPut(cmd))
			code := k.code
			if code == 0 && size == 4 {
				code = 6
			}
			want(t, lastTold(x, 0) == checked(0, 0, cmd, code), "%v, with %d in the box: told is %v", cmd, size, lastTold(x, 0))
			if code != 0 {
				want(t, len(got) == 0 && slices.EqualFunc(x.Parts, e.Parts, samePart), "%v: done is %v, %v", cmd, got, x.Parts)
				continue
			}
			e.Parts[k.apid-7].Box = append(slices.Clone(e.Parts[k.apid-7].Box), k.value)
			want(t, slices.Equal(got, []impl.Got{{Part: k.apid - 7, Cmd: cmd}}) && slices.EqualFunc(x.Parts, e.Parts, samePart), "%v: done is %v, %v", cmd, got, x.Parts)
		}
	}
}

func TestP57AProgramThatFailedIsSentValuesStill(t *testing.T) {
	c := flying()
	e := impl.ExecNew(c)
	e.Parts[1].Fails = true
	x, got := impl.ExecCmd(c, e, impl.CmdPut(sends(8, "\x00\x09")))
	want(t, len(got) == 1 && slices.Equal(x.Parts[1].Box, []int{9}) && x.Parts[1].Fails, "done is %v, %v", got, x.Parts)
}

func TestP57LetInOneModeAlone(t *testing.T) {
	for n := range 16 {
		c := letting(impl.Rule{Source: 1, Service: 17, Sub: 1, Plain: n&1 == 1, Safe: n>>1&1 == 1})
		e := impl.ExecNew(c)
		e.Mode, e.Want = n>>2&1, n>>3&1
		cmd := asks(17, 1, "")
		x, got := impl.ExecCmd(c, e, impl.CmdPut(cmd))
		if n>>e.Mode&1 == 1 {
			want(t, len(got) == 1 && lastTold(x, 0) == checked(1, 0, cmd, 0), "the mode %d, wanted %d: %v, %v", e.Mode, e.Want, got, lastTold(x, 0))
		} else {
			want(t, len(got) == 0 && lastTold(x, 0) == checked(0, 0, cmd, 4), "the mode %d, wanted %d: %v, %v", e.Mode, e.Want, got, lastTold(x, 0))
		}
	}
}

func TestP57EachCodeOfTextsThatAreNoCommands(t *testing.T) {
	c := flying()
	sum := func(text string) string { return text + twoBytes(plainCrc(text)) }
	fine := impl.CmdPut(asks(17, 1, ""))
	long := "\x18\x00\xc0\x05\x00\x63" + "\x2f\x11\x01\x01" + strings.Repeat("d", 94)
	for _, k := range []struct {
		text string
		code int
	}{
		{"", 1}, {"x", 1}, {fine[:len(fine)-1], 1}, {fine + "x", 1}, {"\x08" + fine[1:], 1}, {strings.Repeat("x", 106), 1},
		{turned(fine, 9, 1), 2}, {turned(fine, len(fine)-1, 1), 2}, {"\x18\x00\xc0\x05\x00\x00\x2f", 2}, {long + "xx", 2},
		{sum("\x18\x00\xc0\x05\x00\x04\x2f\x11\x01"), 3}, {sum("\x18\x00\xc0\x05\x00\x05\x2e\x11\x01\x01"), 3}, {sum(long), 3},
		{fine, 0},
	} {
		x, got := impl.ExecCmd(c, impl.ExecNew(c), k.text)
		if k.code == 0 {
			want(t, len(got) == 1, "%q is not done", k.text)
			continue
		}
		want(t, len(got) == 0 && lastTold(x, 0) == checked(0, 0, impl.Cmd{}, k.code) && len(x.Queues[0].Packs) == 1, "of %q is told %v", k.text, x.Queues[0])
	}
}

func TestP57TextsThatAreTooLong(t *testing.T) {
	dice := newDice(133)
	for range 100 {
		c := someFlying(dice)
		e := someExec(dice, c)
		e.Queues[0] = impl.Queue{}
		x, got := impl.ExecCmd(c, e, strings.Repeat("x", 106))
		want(t, lastTold(x, 0) == checked(e.Counts[0], e.Now, impl.Cmd{}, 1) && len(got) == 0, "of 106 bytes is told %v", x.Queues[0])
		for _, size := range []int{107, 108, 400, 5000} {
			x, got := impl.ExecCmd(c, e, (impl.CmdPut(asks(17, 1, "")) + strings.Repeat("x", size))[:size])
			want(t, sameExec(x, e) && len(got) == 0, "of %d bytes %v becomes %v", size, e, x)
		}
	}
}

func TestP58NothingWithoutRules(t *testing.T) {
	dice := newDice(134)
	for range 1500 {
		c := someFlying(dice)
		e := someExec(dice, c)
		text := someAsk(dice, c, e.Now)
		c.Rules = nil
		if dice.Intn(2) == 0 {
			c.Rules = []impl.Rule{{Source: 1, Service: 8, Sub: 1}, {Source: 1, Service: 17, Sub: 1}}
		}
		x, got := impl.ExecCmd(c, e, text)
		want(t, len(got) == 0, "without rules %v is done", got)
		if len(e.Queues[0].Packs) < 8 {
			r := lastTold(x, 0)
			want(t, r.Service == 1 && r.Sub == 2 && (r.Data[4:] == "\x04" || plainCmdCode(text) != 0), "without rules %v is told", r)
		}
		x.Queues, x.Counts = e.Queues, e.Counts
		want(t, sameExec(x, e), "without rules %v became %v", e, x)
	}
}

func TestP58EachThingThatARuleSays(t *testing.T) {
	rule := impl.Rule{Source: 1, Apid: 7, Service: 8, Sub: 1, Plain: true}
	for n := range 5 {
		r := rule
		*[]*int{&r.Source, &r.Apid, &r.Service, &r.Sub, new(int)}[n]++
		c := letting(r)
		_, got := impl.ExecCmd(c, impl.ExecNew(c), impl.CmdPut(sends(7, "\x00\x09")))
		want(t, (len(got) == 1) == (n == 4), "with the rule %v %v is done", r, got)
	}
}

func TestP61CheckedLastOfAll(t *testing.T) {
	dice := newDice(135)
	for range 3000 {
		c := someFlying(dice)
		e := someExec(dice, c)
		text := someAsk(dice, c, e.Now)
		x, got := impl.ExecCmd(c, e, text)
		was := len(e.Queues[0].Packs)
		for who := 1; who < len(e.Queues); who++ {
			want(t, sameQueue(x.Queues[who], e.Queues[who]) && x.Counts[who] == e.Counts[who], "somebody else told %v", x.Queues[who])
		}
		more := len(x.Queues[0].Packs) - was
		want(t, (x.Counts[0]-e.Counts[0]+16384)%16384 == more && sameTexts(x.Queues[0].Packs[:was], e.Queues[0].Packs), "the count %d became %d with %d packets more", e.Counts[0], x.Counts[0], more)
		cmd, _ := impl.CmdGet(text)
		test := len(got) == 1 && cmd.Apid == 0 && cmd.Service == 17
		switch {
		case was >= 8:
			want(t, more == 0, "without room %d packets came", more)
		case test && was == 7:
			want(t, more == 1 && lastTold(x, 0).Service == 17, "with room for one, %v was told", lastTold(x, 0))
		default:
			r := lastTold(x, 0)
			want(t, r.Service == 1 && r.Sub == 2-len(got) && r.Apid == 0 && r.Time == e.Now && r.Data[:4] == twoBytes(cmd.Apid)+twoBytes(cmd.Count), "%v was told last, of %v", r, cmd)
			want(t, test && more == 2 || !test && more == 1, "of %v %d packets came", cmd, more)
		}
	}
}

func TestP61NoRoomToTellIt(t *testing.T) {
	c := flying()
	for size := range 10 {
		for count, next := range map[int]int{0: 1, 16382: 16383, 16383: 0} {
			e := impl.ExecNew(c)
			e.Queues[0], e.Counts[0] = fullQueue(size), count
			for _, cmd := range []impl.Cmd{asks(8, 1, ""), sends(8, "\x00\x09")} {
				x, got := impl.ExecCmd(c, e, impl.CmdPut(cmd))
				asked := cloneExec(e)
				if size < 8 {
					asked.Queues[0].Packs, asked.Counts[0] = append(asked.Queues[0].Packs, impl.RepPut(checked(count, 0, cmd, 0))), next
				}
				if cmd.Apid == 0 {
					asked.Want = 1
				} else {
					asked.Parts[1].Box = []int{9}
				}
				want(t, len(got) == 1 && sameExec(x, asked), "with %d packets %v makes %v", size, cmd, x)
			}
			x, got := impl.ExecCmd(c, e, "x")
			want(t, len(got) == 0 && len(x.Queues[0].Packs) == max(size, min(size+1, 8)) && (size >= 8) == sameExec(x, e), "with %d packets a code makes %v", size, x)
		}
	}
}

func TestP61ATestTakesTheLastRoom(t *testing.T) {
	c := flying()
	for size := range 10 {
		e := impl.ExecNew(c)
		e.Now, e.Queues[0], e.Counts[0] = 9, fullQueue(size), 16383
		cmd := asks(17, 1, "")
		x, got := impl.ExecCmd(c, e, impl.CmdPut(cmd))
		told := []string{impl.RepPut(impl.Rep{Count: 16383, Service: 17, Sub: 2, Time: 9}), impl.RepPut(checked(0, 9, cmd, 0))}
		packs := append(slices.Clone(e.Queues[0].Packs), told[:min(2, max(0, 8-size))]...)
		want(t, len(got) == 1 && sameTexts(x.Queues[0].Packs, packs), "with %d packets are told %q", size, x.Queues[0].Packs)
		want(t, x.Counts[0] == []int{16383, 0, 1}[min(2, max(0, 8-size))], "with %d packets the count is %d", size, x.Counts[0])
	}
}
