package tests

import (
	"math/rand"
	"strings"
	"testing"

	"loop.example/skyway/impl"
)

// twoBytes is a number in two bytes, the highest first.
func twoBytes(n int) string {
	return string([]byte{byte(n / 256), byte(n % 256)})
}

// plainPacket is a packet in bytes, written as the document says it.
func plainPacket(up bool, apid int, count int, data string) string {
	head := 2048 + apid
	if up {
		head += 4096
	}
	return twoBytes(head) + twoBytes(49152+count) + twoBytes(len(data)-1) + data
}

// plainPacketSize is how many bytes the packet has that stands at the beginning of a text, 0 being none.
func plainPacketSize(text string) int {
	if len(text) < 7 {
		return 0
	}
	head := int(text[0])*256 + int(text[1])
	count := int(text[2])*256 + int(text[3])
	size := int(text[4])*256 + int(text[5]) + 1
	if head/2048 != 1 && head/2048 != 3 || count < 49152 || size > 100 || size+6 > len(text) {
		return 0
	}
	return size + 6
}

// plainCmdCode is the code of a text that is read as a command.
func plainCmdCode(text string) int {
	if plainPacketSize(text) != len(text) || len(text) == 0 || text[0]&16 == 0 {
		return 1
	}
	end := len(text) - 2
	if len(text) == 7 || twoBytes(plainCrc(text[:end])) != text[end:] {
		return 2
	}
	if len(text) < 12 || len(text) > 72 || text[6] != 47 {
		return 3
	}
	return 0
}

// somePacket is a packet that is ok.
func somePacket(dice *rand.Rand) impl.Packet {
	return impl.Packet{Up: dice.Intn(2) == 0, Apid: dice.Intn(2048), Count: dice.Intn(16384), Data: someText(dice, 1+dice.Intn(100))}
}

// someCmd is a command that is ok.
func someCmd(dice *rand.Rand) impl.Cmd {
	return impl.Cmd{Apid: dice.Intn(2048), Count: dice.Intn(16384), Source: dice.Intn(256), Service: dice.Intn(256), Sub: dice.Intn(256), Data: someText(dice, dice.Intn(61))}
}

// someRep is a telling that is ok.
func someRep(dice *rand.Rand) impl.Rep {
	return impl.Rep{Apid: dice.Intn(2047), Count: dice.Intn(16384), Service: dice.Intn(256), Sub: dice.Intn(256), Time: dice.Intn(100000), Data: someText(dice, dice.Intn(61))}
}

// edgePackets are packets that are ok, with limits met exactly.
func edgePackets() []impl.Packet {
	return []impl.Packet{
		{Data: "d"},
		{Up: true, Data: "\x00"},
		{Apid: 2047, Count: 16383, Data: strings.Repeat("d", 100)},
		{Up: true, Apid: 2047, Count: 16383, Data: strings.Repeat("\xff", 100)},
		{Apid: 2047, Data: "d"},
		{Count: 16383, Data: "d"},
		{Data: strings.Repeat("\x00", 99)},
	}
}

// badPackets are packets that are not ok, each by one thing.
func badPackets() []impl.Packet {
	list := []impl.Packet{
		{}, {Up: true}, {Apid: 7, Count: 2},
		{Apid: -1, Data: "d"}, {Apid: 2048, Data: "d"}, {Apid: 4096, Data: "d"},
		{Count: -1, Data: "d"}, {Count: 16384, Data: "d"},
		{Data: strings.Repeat("d", 101)}, {Data: strings.Repeat("d", 70000)},
	}
	for _, n := range farNumbers() {
		list = append(list, impl.Packet{Apid: n, Data: "d"}, impl.Packet{Up: true, Count: n, Data: "d"})
	}
	return list
}

// isNoPacket holds PacketGet to read nothing.
func isNoPacket(t *testing.T, text string, at int) {
	t.Helper()
	p, size := impl.PacketGet(text, at)
	want(t, p == impl.Packet{} && size == 0, "PacketGet(%q, %d) is %v, %d", text, at, p, size)
}

func TestP24PacketInBytes(t *testing.T) {
	for _, c := range []struct {
		p    impl.Packet
		text string
	}{
		{impl.Packet{Apid: 7, Count: 2, Data: "ab"}, "\x08\x07\xc0\x02\x00\x01ab"},
		{impl.Packet{Up: true, Apid: 7, Count: 2, Data: "ab"}, "\x18\x07\xc0\x02\x00\x01ab"},
		{impl.Packet{Data: "\x00"}, "\x08\x00\xc0\x00\x00\x00\x00"},
		{impl.Packet{Up: true, Apid: 2047, Count: 16383, Data: strings.Repeat("d", 100)}, "\x1f\xff\xff\xff\x00\x63" + strings.Repeat("d", 100)},
	} {
		want(t, impl.PacketPut(c.p) == c.text, "PacketPut(%v) is %q", c.p, impl.PacketPut(c.p))
	}
}

func TestP24PacketsAreReadBackWhereverTheyStand(t *testing.T) {
	dice := newDice(61)
	packets := edgePackets()
	for range 2000 {
		packets = append(packets, somePacket(dice))
	}
	for _, p := range packets {
		text := impl.PacketPut(p)
		want(t, text == plainPacket(p.Up, p.Apid, p.Count, p.Data), "PacketPut(%v) is %q", p, text)
		for _, ahead := range []string{"", "z", text, someText(dice, dice.Intn(200))} {
			for _, behind := range []string{"", "\x00", text, someText(dice, dice.Intn(200))} {
				got, size := impl.PacketGet(ahead+text+behind, len(ahead))
				want(t, got == p && size == len(text), "PacketGet of PacketPut(%v) is %v, %d", p, got, size)
			}
		}
	}
}

func TestP24PacketsThatAreNotOk(t *testing.T) {
	for _, p := range badPackets() {
		want(t, impl.PacketPut(p) == "", "PacketPut(%v) is %q", p, impl.PacketPut(p))
	}
}

func TestP24PlacesThatAreNone(t *testing.T) {
	text := impl.PacketPut(impl.Packet{Apid: 7, Count: 2, Data: "hello"})
	for _, at := range append([]int{-1, -len(text), 1, len(text) - 1, len(text), len(text) + 1}, farNumbers()...) {
		isNoPacket(t, text, at)
		isNoPacket(t, "", at)
	}
	isNoPacket(t, "", 0)
}

func TestP24NumbersThatAreNone(t *testing.T) {
	for n := range 65536 {
		text := twoBytes(n) + "\xc0\x02\x00\x01ab"
		p, size := impl.PacketGet(text, 0)
		if n/2048 == 1 || n/2048 == 3 {
			want(t, size == 8 && p == impl.Packet{Up: n >= 4096, Apid: n % 2048, Count: 2, Data: "ab"}, "with the first number %d: %v, %d", n, p, size)
			want(t, impl.PacketPut(p) == text, "what is read is written as %q", impl.PacketPut(p))
		} else {
			isNoPacket(t, text, 0)
		}
		text = "\x08\x07" + twoBytes(n) + "\x00\x01ab"
		p, size = impl.PacketGet(text, 0)
		if n >= 49152 {
			want(t, size == 8 && p == impl.Packet{Apid: 7, Count: n - 49152, Data: "ab"}, "with the second number %d: %v, %d", n, p, size)
		} else {
			isNoPacket(t, text, 0)
		}
	}
}

func TestP24SizesThatAreToldWrong(t *testing.T) {
	all := strings.Repeat("d", 70000)
	for told := range 100 {
		text := "\x08\x07\xc0\x02" + twoBytes(told)
		p, size := impl.PacketGet(text+all[:told+1], 0)
		want(t, size == told+7 && p.Data == all[:told+1], "PacketGet of %d bytes is %v, %d", told+1, p, size)
		isNoPacket(t, text+all[:told], 0)
	}
	for _, told := range []int{100, 101, 102, 255, 256, 355, 511, 512, 611, 32768, 65280, 65535} {
		text := "\x08\x07\xc0\x02" + twoBytes(told)
		isNoPacket(t, text+all, 0)
		isNoPacket(t, text+all[:told+1], 0)
	}
	text := impl.PacketPut(impl.Packet{Up: true, Apid: 7, Count: 2, Data: "hello"})
	for size := range text {
		isNoPacket(t, text[:size], 0)
		isNoPacket(t, "zz"+text[:size], 2)
	}
}

func TestP24WhatIsReadStandsThere(t *testing.T) {
	dice := newDice(62)
	heads := []string{"\x08", "\x18", "\x0f", "\x1f", "\x00", "\x10", "\x28", "\x88"}
	for range 40000 {
		text := heads[dice.Intn(len(heads))] + someText(dice, 1) + twoBytes(dice.Intn(4)*16384+dice.Intn(16384)) + twoBytes(dice.Intn(12)) + someText(dice, dice.Intn(12))
		text = text[:dice.Intn(len(text)+1)]
		at := dice.Intn(3)
		p, size := impl.PacketGet("zz"[:at]+text, at)
		want(t, size == plainPacketSize(text), "PacketGet(%q) is of %d bytes", text, size)
		if size == 0 {
			want(t, p == impl.Packet{}, "beside 0: %v", p)
		} else {
			want(t, impl.PacketPut(p) == text[:size], "PacketGet(%q) is %v", text, p)
		}
	}
}

// edgeCmds are commands that are ok, with limits met exactly.
func edgeCmds() []impl.Cmd {
	return []impl.Cmd{
		{},
		{Apid: 2047, Count: 16383, Source: 255, Service: 255, Sub: 255, Data: strings.Repeat("\xff", 60)},
		{Apid: 2047}, {Count: 16383}, {Source: 255}, {Service: 255}, {Sub: 255},
		{Data: strings.Repeat("d", 60)}, {Data: strings.Repeat("\x00", 59)}, {Data: "d"}, {Data: "\x00"},
	}
}

// badCmds are commands that are not ok, each by one thing.
func badCmds() []impl.Cmd {
	list := []impl.Cmd{{Data: strings.Repeat("d", 61)}, {Data: strings.Repeat("d", 94)}, {Data: strings.Repeat("d", 95)}, {Apid: 2048}, {Count: 16384}, {Source: 256}, {Service: 256}, {Sub: 256}}
	for _, n := range append(farNumbers(), -1) {
		list = append(list, impl.Cmd{Apid: n}, impl.Cmd{Count: n}, impl.Cmd{Source: n}, impl.Cmd{Service: n}, impl.Cmd{Sub: n})
	}
	return list
}

// hasCmdCode holds CmdGet to a code, and to nothing beside.
func hasCmdCode(t *testing.T, text string, code int) {
	t.Helper()
	c, k := impl.CmdGet(text)
	want(t, k == code && c == impl.Cmd{}, "CmdGet(%q) is %v, %d, not the code %d", text, c, k, code)
}

// summed is a packet of which the last two bytes are the sum of all ahead.
func summed(packet string) string {
	return withSum(packet[:len(packet)-2])
}

func TestP25CommandInBytes(t *testing.T) {
	c := impl.Cmd{Apid: 7, Count: 2, Source: 9, Service: 8, Sub: 1, Data: "hi"}
	want(t, impl.CmdPut(c) == withSum("\x18\x07\xc0\x02\x00\x07\x2f\x08\x01\x09hi"), "CmdPut(%v) is %q", c, impl.CmdPut(c))
	want(t, impl.CmdPut(impl.Cmd{}) == withSum("\x18\x00\xc0\x00\x00\x05\x2f\x00\x00\x00"), "CmdPut of nothing is %q", impl.CmdPut(impl.Cmd{}))
}

func TestP25CommandsAreReadBack(t *testing.T) {
	dice := newDice(63)
	cmds := edgeCmds()
	for range 3000 {
		cmds = append(cmds, someCmd(dice))
	}
	for _, c := range cmds {
		text := impl.CmdPut(c)
		want(t, len(text) == len(c.Data)+12, "CmdPut(%v) has %d bytes", c, len(text))
		back, code := impl.CmdGet(text)
		want(t, back == c && code == impl.CmdFine, "CmdGet of CmdPut(%v) is %v, %d", c, back, code)
		p, size := impl.PacketGet(text, 0)
		want(t, size == len(text) && p.Up && p.Apid == c.Apid && p.Count == c.Count, "CmdPut(%v) is the packet %v", c, p)
	}
}

func TestP25CommandsThatAreNotOk(t *testing.T) {
	for _, c := range badCmds() {
		want(t, impl.CmdPut(c) == "", "CmdPut(%v) is %q", c, impl.CmdPut(c))
	}
}

func TestP25NotJustAPacketThatGoesUp(t *testing.T) {
	text := impl.CmdPut(impl.Cmd{Apid: 7, Count: 2, Source: 1, Service: 8, Sub: 1, Data: "hi"})
	for size := range text {
		hasCmdCode(t, text[:size], impl.CmdShape)
	}
	for _, other := range []string{text + "z", "z" + text, text + text, strings.Repeat("z", 5000)} {
		hasCmdCode(t, other, impl.CmdShape)
	}
	// Each of these has a sum that is right, of a packet that is none, or that goes down.
	for _, none := range []string{
		withSum(""), withSum("\x2f"), withSum("hello"), withSum(text), withSum(text[:len(text)-2] + "z"),
		withSum("\x18\x07\xc0\x02\x00\x08\x2f\x08\x01\x01hi"),
		withSum("\x18\x07\xc0\x02\x00\x06\x2f\x08\x01\x01hi"),
		withSum("\x18\x07\x80\x02\x00\x07\x2f\x08\x01\x01hi"),
		withSum("\x38\x07\xc0\x02\x00\x07\x2f\x08\x01\x01hi"),
		withSum("\x10\x07\xc0\x02\x00\x07\x2f\x08\x01\x01hi"),
		withSum("\x08\x07\xc0\x02\x00\x07\x2f\x08\x01\x01hi"),
		withSum("\x18\x07\xc0\x02\x00\x64\x2f\x08\x01\x01" + strings.Repeat("d", 95)),
	} {
		hasCmdCode(t, none, impl.CmdShape)
	}
}

func TestP25SumsThatAreNotRight(t *testing.T) {
	dice := newDice(64)
	for size := 1; size <= 100; size++ {
		packet := impl.PacketPut(impl.Packet{Up: true, Apid: 7, Data: "\x2f" + strings.Repeat("d", size-1)})
		hasCmdCode(t, packet, impl.CmdSum)
		if size > 1 {
			hasCmdCode(t, turned(summed(packet), len(packet)-1, 1+dice.Intn(255)), impl.CmdSum)
			hasCmdCode(t, turned(summed(packet), len(packet)-2, 1+dice.Intn(255)), impl.CmdSum)
		}
	}
	// Of one byte of data the sum would stand in part ahead of it: none is right then.
	seen := 0
	for apid := range 2048 {
		ahead := plainPacket(true, apid, 2, "d")[:5]
		if sum := plainCrc(ahead); sum < 256 {
			hasCmdCode(t, plainPacket(true, apid, 2, string([]byte{byte(sum)})), impl.CmdSum)
			seen++
		}
	}
	want(t, seen > 0, "no such packet was seen")
}

func TestP25HeadsThatAreNotRight(t *testing.T) {
	for size := 2; size <= 100; size++ {
		packet := summed(plainPacket(true, 7, 2, "\x2f"+strings.Repeat("d", size-1)))
		if size >= 6 && size <= 66 {
			c, code := impl.CmdGet(packet)
			want(t, code == impl.CmdFine && c.Data == strings.Repeat("d", size-6) && impl.CmdPut(c) == packet, "of %d bytes: %v, %d", size, c, code)
		} else {
			hasCmdCode(t, packet, impl.CmdHead)
		}
	}
	for mark := range 256 {
		if mark != 47 {
			hasCmdCode(t, summed(plainPacket(true, 7, 2, string([]byte{byte(mark)})+"\x08\x01\x01hi..")), impl.CmdHead)
		}
	}
}

func TestP25NothingElseIsReadAsACommand(t *testing.T) {
	dice := newDice(65)
	seen := map[int]int{}
	for range 30000 {
		data := someText(dice, 1+dice.Intn(90))
		if dice.Intn(3) > 0 {
			data = "\x2f" + data
		}
		text := plainPacket(dice.Intn(8) > 0, dice.Intn(2048), dice.Intn(16384), data)
		if dice.Intn(4) > 0 {
			text = summed(text)
		}
		if dice.Intn(6) == 0 {
			text = turned(text, dice.Intn(6), 1<<dice.Intn(8))
		}
		c, code := impl.CmdGet(text)
		want(t, code == plainCmdCode(text), "CmdGet(%q) is %v, %d", text, c, code)
		if code == impl.CmdFine {
			want(t, impl.CmdPut(c) == text, "CmdGet(%q) is %v", text, c)
		} else {
			want(t, c == impl.Cmd{}, "beside the code %d: %v", code, c)
		}
		seen[code]++
	}
	want(t, len(seen) == 4, "only some codes were seen: %v", seen)
}

func TestP26TurnedCommandsAreNone(t *testing.T) {
	dice := newDice(66)
	cmds := edgeCmds()
	for range 40 {
		cmds = append(cmds, someCmd(dice))
	}
	for _, c := range cmds {
		text := impl.CmdPut(c)
		for at := range text {
			for mask := 1; mask < 256; mask++ {
				got, code := impl.CmdGet(turned(text, at, mask))
				want(t, code != impl.CmdFine && got == impl.Cmd{}, "byte %d of %q turned by %d: %v, %d", at, text, mask, got, code)
			}
		}
	}
}

// edgeReps are tellings that are ok, with limits met exactly.
func edgeReps() []impl.Rep {
	return []impl.Rep{
		{},
		{Apid: 2046, Count: 16383, Service: 255, Sub: 255, Time: 99999, Data: strings.Repeat("\xff", 60)},
		{Apid: 2046}, {Count: 16383}, {Service: 255}, {Sub: 255}, {Time: 99999},
		{Data: strings.Repeat("d", 60)}, {Data: strings.Repeat("\x00", 59)}, {Data: "d"}, {Data: "\x00"},
	}
}

// badReps are tellings that are not ok, each by one thing.
func badReps() []impl.Rep {
	list := []impl.Rep{{Data: strings.Repeat("d", 61)}, {Data: strings.Repeat("d", 93)}, {Data: strings.Repeat("d", 94)}, {Apid: 2047}, {Count: 16384}, {Service: 256}, {Sub: 256}, {Time: 100000}}
	for _, n := range append(farNumbers(), -1) {
		list = append(list, impl.Rep{Apid: n}, impl.Rep{Count: n}, impl.Rep{Service: n}, impl.Rep{Sub: n}, impl.Rep{Time: n})
	}
	return list
}

// isNoRep holds RepGet to read nothing.
func isNoRep(t *testing.T, text string) {
	t.Helper()
	r, ok := impl.RepGet(text)
	want(t, !ok && r == impl.Rep{}, "RepGet(%q) is %v, %t", text, r, ok)
}

func TestP27TellingsAreReadBack(t *testing.T) {
	dice := newDice(67)
	reps := edgeReps()
	for range 3000 {
		reps = append(reps, someRep(dice))
	}
	for _, r := range reps {
		text := impl.RepPut(r)
		head := "\x20" + string([]byte{byte(r.Service), byte(r.Sub), 0, byte(r.Time / 65536)}) + twoBytes(r.Time%65536)
		want(t, text == plainPacket(false, r.Apid, r.Count, head+r.Data), "RepPut(%v) is %q", r, text)
		back, ok := impl.RepGet(text)
		want(t, ok && back == r, "RepGet of RepPut(%v) is %v, %t", r, back, ok)
		hasCmdCode(t, text, impl.CmdShape)
	}
}

func TestP27TellingsThatAreNotOk(t *testing.T) {
	for _, r := range badReps() {
		want(t, impl.RepPut(r) == "", "RepPut(%v) is %q", r, impl.RepPut(r))
	}
}

func TestP27WhatIsNoTelling(t *testing.T) {
	body := "\x20\x03\x19\x00\x00\x01\x2cab"
	text := plainPacket(false, 7, 2, body)
	r, ok := impl.RepGet(text)
	want(t, ok && r == impl.Rep{Apid: 7, Count: 2, Service: 3, Sub: 25, Time: 300, Data: "ab"}, "RepGet is %v, %t", r, ok)
	for size := range text {
		isNoRep(t, text[:size])
	}
	for size := 1; size < 7; size++ {
		isNoRep(t, plainPacket(false, 7, 2, body[:size]))
	}
	for _, other := range []string{
		text + "z", "z" + text, text + text,
		plainPacket(true, 7, 2, body),
		plainPacket(false, 2047, 2, body),
		plainPacket(false, 7, 2, "\x2f"+body[1:]),
		plainPacket(false, 7, 2, "\x20\x03\x19\x00\x01\x86\xa0ab"),
		plainPacket(false, 7, 2, "\x20\x03\x19\xff\xff\xff\xffab"),
		plainPacket(false, 7, 2, "\x20\x03\x19\x01\x00\x00\x00ab"),
		plainPacket(false, 7, 2, body[:7]+strings.Repeat("d", 61)),
		plainPacket(false, 7, 2, body[:7]+strings.Repeat("d", 93)),
		plainPacket(false, 7, 2, body[:7]+strings.Repeat("d", 94)),
		impl.CmdPut(impl.Cmd{Apid: 7, Count: 2, Service: 3, Sub: 25, Data: "ab"}),
	} {
		isNoRep(t, other)
	}
	for mark := range 256 {
		if mark != 32 {
			isNoRep(t, plainPacket(false, 7, 2, string([]byte{byte(mark)})+body[1:]))
		}
	}
	_, ok = impl.RepGet(plainPacket(false, 2046, 2, "\x20\x03\x19\x00\x01\x86\x9f"+strings.Repeat("d", 60)))
	want(t, ok, "a telling at all its limits is not read")
}

func TestP27WhatIsReadIsWrittenSo(t *testing.T) {
	dice := newDice(68)
	read := 0
	for range 20000 {
		text := impl.RepPut(someRep(dice))
		text = turned(text, dice.Intn(min(len(text), 15)), 1<<dice.Intn(8))
		r, ok := impl.RepGet(text)
		if ok {
			want(t, impl.RepPut(r) == text, "RepGet(%q) is %v", text, r)
			read++
		} else {
			want(t, r == impl.Rep{}, "beside a false: %v", r)
		}
	}
	want(t, read > 1000, "only %d were read", read)
}
