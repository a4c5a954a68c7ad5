package tests

import (
	"math/rand"
	"slices"
	"strings"
	"testing"

	"loop.example/skyway/impl"
)

// someFarm is how orders stand, in bytes.
const someFarm = "\x01\x00\x2c\xff"

// someDown is a frame down that is ok.
func someDown(dice *rand.Rand) impl.Down {
	farms := okFarms(0, 127, 255)
	return impl.Down{
		Craft: dice.Intn(1024), Who: dice.Intn(8), All: dice.Intn(256), Own: dice.Intn(256),
		First: append(dice.Perm(28)[:3], 2046, 2047)[dice.Intn(5)], Data: someText(dice, 28), Farm: impl.FarmPut(farms[dice.Intn(len(farms))]),
	}
}

// plainDown is a frame down in bytes, as the document says it.
func plainDown(d impl.Down) string {
	text := twoBytes(d.Craft*16+d.Who*2+1) + string([]byte{byte(d.All), byte(d.Own)}) + twoBytes(6144+d.First) + d.Data + d.Farm
	return text + twoBytes(plainCrc(text))
}

// edgeDowns are frames down that are ok, with limits met exactly.
func edgeDowns() []impl.Down {
	data := strings.Repeat("\x55", 28)
	list := []impl.Down{
		{Data: data, Farm: someFarm},
		{Craft: 1023, Who: 7, All: 255, Own: 255, First: 2047, Data: strings.Repeat("\xff", 28), Farm: someFarm},
		{Craft: 1023, Data: data, Farm: someFarm}, {Who: 7, Data: data, Farm: someFarm}, {All: 255, Data: data, Farm: someFarm}, {Own: 255, Data: data, Farm: someFarm},
	}
	for _, first := range []int{0, 1, 26, 27, 2046, 2047} {
		list = append(list, impl.Down{Craft: 5, First: first, Data: data, Farm: someFarm})
	}
	for _, f := range okFarms(0, 255) {
		list = append(list, impl.Down{Craft: 5, Data: strings.Repeat("\x00", 28), Farm: impl.FarmPut(f)})
	}
	return list
}

// manyDowns are frames down that are ok.
func manyDowns() []impl.Down {
	dice := newDice(121)
	list := edgeDowns()
	for range 1000 {
		list = append(list, someDown(dice))
	}
	return list
}

// badDowns are frames down that are not ok, each by one thing.
func badDowns() []impl.Down {
	var list []impl.Down
	change := func(f func(d *impl.Down)) {
		d := impl.Down{Craft: 5, Who: 1, All: 9, Own: 3, First: 0, Data: strings.Repeat("d", 28), Farm: someFarm}
		f(&d)
		list = append(list, d)
	}
	list = append(list, impl.Down{})
	for _, n := range farNumbers() {
		change(func(d *impl.Down) { d.Craft = n })
		change(func(d *impl.Down) { d.Who = n })
		change(func(d *impl.Down) { d.All = n })
		change(func(d *impl.Down) { d.Own = n })
		change(func(d *impl.Down) { d.First = n })
	}
	for _, n := range []int{-2, -1, 28, 29, 100, 2044, 2045, 2048, 2049, 4096} {
		change(func(d *impl.Down) { d.First = n })
	}
	for _, size := range []int{0, 1, 27, 29, 56, 1000} {
		change(func(d *impl.Down) { d.Data = strings.Repeat("d", size) })
	}
	for _, farm := range []string{"", "\x01", "\x01\x00\x00", "\x01\x00\x00\x00\x00", "\x00\x00\x00\x00", "\x01\x01\x00\x00", "\x01\x00\x01\x00", "\x01\x00\x40\x00", "\x01\x00\x80\x00", "\x01\x00\x10\x00", "\x01\x00\xff\x00"} {
		change(func(d *impl.Down) { d.Farm = farm })
	}
	change(func(d *impl.Down) { d.Craft = -1 })
	change(func(d *impl.Down) { d.Craft = 1024 })
	change(func(d *impl.Down) { d.Who = -1 })
	change(func(d *impl.Down) { d.Who = 8 })
	change(func(d *impl.Down) { d.All = -1 })
	change(func(d *impl.Down) { d.All = 256 })
	change(func(d *impl.Down) { d.Own = -1 })
	change(func(d *impl.Down) { d.Own = 256 })
	return list
}

// isNoDown holds DownGet to read nothing.
func isNoDown(t *testing.T, text string) {
	t.Helper()
	d, ok := impl.DownGet(text)
	want(t, d == impl.Down{} && !ok, "DownGet(%q) is %v, %t", text, d, ok)
}

// packDown is a packet that goes down, with so many bytes in all; its count tells it from others.
func packDown(count int, size int) string {
	return plainPacket(false, 7, count, strings.Repeat("d", size-6))
}

// packsOf are packets that go down, of so many bytes each.
func packsOf(sizes ...int) []string {
	var list []string
	for i, size := range sizes {
		list = append(list, packDown(i, size))
	}
	return list
}

// idle is a packet of so many bytes that says nothing.
func idle(size int) string {
	return plainPacket(false, 2047, 0, strings.Repeat("\x55", size-6))
}

// someQueue is a queue that is ok, of any packets, some of them of ApidMax.
func someQueue(dice *rand.Rand) impl.Queue {
	var q impl.Queue
	for range dice.Intn(10) {
		p := somePacket(dice)
		if dice.Intn(5) == 0 {
			p.Apid = 2047
		}
		if dice.Intn(2) == 0 {
			p.Data = p.Data[:1+dice.Intn(min(20, len(p.Data)))]
		}
		q.Packs = append(q.Packs, impl.PacketPut(p))
	}
	if len(q.Packs) > 0 && dice.Intn(2) == 0 {
		q.Sent = dice.Intn(len(q.Packs[0]))
	}
	return q
}

// manyQueues are queues that are ok.
func manyQueues() []impl.Queue {
	dice := newDice(122)
	list := []impl.Queue{
		{}, {Packs: []string{}}, {Packs: packsOf(7)}, {Packs: packsOf(7), Sent: 6}, {Packs: packsOf(106)}, {Packs: packsOf(106), Sent: 105}, {Packs: packsOf(106, 106), Sent: 78},
		{Packs: packsOf(28)}, {Packs: packsOf(14, 14)}, {Packs: packsOf(7, 7, 7, 7, 7, 7, 7, 7, 7)}, {Packs: packsOf(106, 106, 106, 106, 106, 106, 106, 106, 106)}, {Packs: packsOf(7, 7, 7, 7, 7, 7, 7, 7)},
		{Packs: []string{idle(7)}}, {Packs: []string{idle(7)}, Sent: 3}, {Packs: []string{idle(28), idle(28)}},
	}
	for range 1500 {
		list = append(list, someQueue(dice))
	}
	return list
}

// badQueues are queues that are not ok, each by one thing.
func badQueues() []impl.Queue {
	whole := packDown(0, 20)
	list := []impl.Queue{
		{Packs: []string{""}}, {Packs: []string{"x"}}, {Packs: []string{whole[:19]}}, {Packs: []string{whole + "x"}}, {Packs: []string{whole + whole}}, {Packs: []string{"x" + whole}}, {Packs: []string{whole, ""}},
		{Packs: []string{whole, whole, "\x08\x07\xc0\x00\x00\x64" + strings.Repeat("d", 101)}}, {Packs: []string{"\x00" + whole[1:]}}, {Packs: []string{whole[:6]}},
		{Sent: 1}, {Sent: -1}, {Packs: []string{whole}, Sent: 20}, {Packs: []string{whole}, Sent: 21}, {Packs: []string{whole}, Sent: -1}, {Packs: packsOf(20, 30), Sent: 20}, {Packs: packsOf(7), Sent: 7},
		{Packs: slices.Repeat([]string{whole}, 10)}, {Packs: slices.Repeat([]string{whole}, 1000)},
	}
	for _, n := range farNumbers() {
		list = append(list, impl.Queue{Sent: n}, impl.Queue{Packs: []string{whole}, Sent: n})
	}
	return list
}

// sameQueue says whether two queues are the same.
func sameQueue(a impl.Queue, b impl.Queue) bool {
	return sameTexts(a.Packs, b.Packs) && a.Sent == b.Sent
}

// plainFill is what QueueFill answers, as the document says it, by the places of all packets in one row.
func plainFill(q impl.Queue) (impl.Queue, string, int) {
	if len(q.Packs) == 0 {
		return impl.Queue{}, strings.Repeat("U", 28), 2046
	}
	packs := slices.Clone(q.Packs)
	if size := len(strings.Join(packs, "")) - q.Sent; size < 28 {
		packs = append(packs, idle(max(28-size, 7)))
	}
	row := strings.Join(packs, "")[q.Sent:]
	first, left := 2047, impl.Queue{}
	at := -q.Sent
	for _, pack := range packs {
		if at >= 0 && at < 28 && first == 2047 {
			first = at
		}
		if at+len(pack) > 28 {
			if len(left.Packs) == 0 && at < 28 {
				left.Sent = 28 - at
			}
			left.Packs = append(left.Packs, pack)
		}
		at += len(pack)
	}
	return left, row[:28], first
}

// someHears is a hearer that is ok.
func someHears(dice *rand.Rand) impl.Hears {
	h := impl.Hears{Next: dice.Intn(256), Open: dice.Intn(3) > 0}
	if h.Open {
		h.Text = packDown(3, 7+dice.Intn(100))
		h.Text = h.Text[:dice.Intn(len(h.Text))]
		if dice.Intn(4) == 0 {
			h.Text = someText(dice, dice.Intn(107))
		}
	}
	return h
}

// badHears are hearers that are not ok.
func badHears() []impl.Hears {
	list := []impl.Hears{{Next: -1}, {Next: 256}, {Text: "x"}, {Next: 3, Text: strings.Repeat("x", 106)}, {Open: true, Text: strings.Repeat("x", 107)}, {Open: true, Text: strings.Repeat("x", 1000)}}
	for _, n := range farNumbers() {
		list = append(list, impl.Hears{Next: n}, impl.Hears{Next: n, Open: true, Text: "x"})
	}
	return list
}

// plainHears is what HearsDown answers to what is ok, as the document says it.
func plainHears(h impl.Hears, d impl.Down) (impl.Hears, []string) {
	next := d.Own + 1
	if next == 256 {
		next = 0
	}
	shut := impl.Hears{Next: next}
	text := ""
	switch {
	case d.First == 2046:
		return shut, nil
	case h.Open && d.Own == h.Next:
		text = h.Text + d.Data
	case d.First == 2047:
		return shut, nil
	default:
		text = d.Data[d.First:]
	}
	var told []string
	for len(text) >= 7 {
		n := int(text[4])*256 + int(text[5]) + 7
		if n > 106 || len(text) >= n && plainPacketSize(text) != n {
			return shut, told
		}
		if len(text) < n {
			break
		}
		if (int(text[0])*256+int(text[1]))%2048 != 2047 {
			told = append(told, text[:n])
		}
		text = text[n:]
	}
	return impl.Hears{Next: next, Open: true, Text: text}, told
}

// downOf is a frame down with data.
func downOf(own int, first int, data string) impl.Down {
	return impl.Down{Craft: 5, Own: own, First: first, Data: data, Farm: someFarm}
}

// padded is data of a frame that begin so, with bytes behind.
func padded(text string, fill string) string {
	return text + strings.Repeat(fill, 28-len(text))
}

func TestP46FramesDownInBytes(t *testing.T) {
	for _, d := range manyDowns() {
		text := impl.DownPut(d)
		want(t, len(text) == 40 && text == plainDown(d), "DownPut(%v) is %q", d, text)
		got, ok := impl.DownGet(text)
		want(t, ok && got == d, "DownGet of DownPut(%v) is %v, %t", d, got, ok)
	}
	for _, d := range badDowns() {
		want(t, impl.DownPut(d) == "", "DownPut(%v) is %q", d, impl.DownPut(d))
		// Only of these the bytes tell what is not ok.
		if d.Craft < 0 || d.Craft >= 4096 || d.Who < 0 || d.Who >= 8 || d.All != d.All&255 || d.Own != d.Own&255 || d.First < -6144 || d.First >= 59000 {
			continue
		}
		isNoDown(t, plainDown(d))
	}
}

func TestP46FirstsThatThereAre(t *testing.T) {
	for first := -6144; first < 59392; first++ {
		d := downOf(3, first, strings.Repeat("d", 28))
		got, ok := impl.DownGet(plainDown(d))
		if first >= 0 && first <= 27 || first == 2046 || first == 2047 {
			want(t, ok && got == d, "with the first %d: %v, %t", first, got, ok)
		} else {
			want(t, !ok && got == impl.Down{}, "with the first %d: %v, %t", first, got, ok)
		}
	}
}

func TestP46HeadsThatThereAre(t *testing.T) {
	rest := "\x09\x03\x18\x00" + strings.Repeat("d", 28) + someFarm
	for head := range 65536 {
		text := twoBytes(head) + rest
		text += twoBytes(plainCrc(text))
		got, ok := impl.DownGet(text)
		if head%2 == 1 && head < 16384 {
			want(t, ok && got.Craft == head/16 && got.Who == head/2%8 && got.All == 9 && got.Own == 3 && got.First == 0, "with the head %d: %v, %t", head, got, ok)
			want(t, impl.DownPut(got) == text, "what is read is written as %q", impl.DownPut(got))
		} else {
			want(t, !ok && got == impl.Down{}, "with the head %d: %v, %t", head, got, ok)
		}
	}
}

func TestP46TextsThatAreNone(t *testing.T) {
	text := impl.DownPut(edgeDowns()[1])
	for size := range text {
		isNoDown(t, text[:size])
		isNoDown(t, text[40-size:])
	}
	isNoDown(t, text+"x")
	isNoDown(t, text+text)
	isNoDown(t, "x"+text)
	isNoDown(t, strings.Repeat("\x00", 40))
	dice := newDice(123)
	for range 3000 {
		isNoDown(t, someText(dice, dice.Intn(60)))
	}
}

func TestP46SumsThatFitWhatIsNone(t *testing.T) {
	for _, size := range []int{0, 1, 27, 29, 30} {
		isNoDown(t, plainDown(downOf(3, 0, strings.Repeat("d", size))))
	}
	for n := range 65536 {
		d := downOf(3, 0, strings.Repeat("d", 28))
		d.Farm = "\x01\x00" + twoBytes(n)
		_, reads := impl.FarmGet(d.Farm)
		got, ok := impl.DownGet(plainDown(d))
		want(t, ok == reads && (got == d) == reads, "with the farm %q: %v, %t", d.Farm, got, ok)
		d.Farm = twoBytes(n) + "\x00\x00"
		got, ok = impl.DownGet(plainDown(d))
		want(t, ok == (n == 256) && (got == d) == (n == 256), "with the farm %q: %v, %t", d.Farm, got, ok)
	}
}

func TestP47OneByteTurned(t *testing.T) {
	for _, d := range manyDowns()[:60] {
		text := impl.DownPut(d)
		for at := range text {
			for mask := 1; mask < 256; mask++ {
				isNoDown(t, turned(text, at, mask))
			}
		}
	}
}

func TestP48QueuesThatAreOk(t *testing.T) {
	for _, q := range manyQueues() {
		want(t, impl.QueueOk(q), "%v is not ok", q)
	}
	for _, q := range badQueues() {
		want(t, !impl.QueueOk(q), "%v is ok", q)
	}
	for size := 7; size <= 106; size++ {
		for sent := -2; sent < 110; sent++ {
			want(t, impl.QueueOk(impl.Queue{Packs: packsOf(size, 30), Sent: sent}) == (sent >= 0 && sent < size), "with %d bytes and %d sent it is not as asked", size, sent)
		}
	}
}

func TestP48FillJustAsAsked(t *testing.T) {
	seen := map[int]int{}
	for _, q := range manyQueues() {
		for range 4 {
			x, data, first := impl.QueueFill(q)
			asked, row, begins := plainFill(q)
			want(t, sameQueue(x, asked) && data == row && first == begins, "QueueFill(%v) is %v, %q, %d", q, x, data, first)
			want(t, impl.QueueOk(x) && len(data) == 28, "QueueFill(%v) is %v, %q", q, x, data)
			seen[first]++
			q = x
		}
	}
	want(t, seen[2046] > 0 && seen[2047] > 0 && seen[0] > 0 && seen[27] > 0, "only some firsts were seen: %v", seen)
}

func TestP48EdgesOfFrames(t *testing.T) {
	for _, c := range []struct {
		q, left impl.Queue
		data    string
		first   int
	}{
		{impl.Queue{Packs: packsOf(28)}, impl.Queue{}, packDown(0, 28), 0},
		{impl.Queue{Packs: packsOf(28, 9)}, impl.Queue{Packs: []string{packDown(1, 9)}}, packDown(0, 28), 0},
		{impl.Queue{Packs: packsOf(14, 14)}, impl.Queue{}, packDown(0, 14) + packDown(1, 14), 0},
		{impl.Queue{Packs: packsOf(29)}, impl.Queue{Packs: packsOf(29), Sent: 28}, packDown(0, 29)[:28], 0},
		{impl.Queue{Packs: packsOf(29), Sent: 28}, impl.Queue{}, "d" + idle(27), 1},
		{impl.Queue{Packs: packsOf(29), Sent: 1}, impl.Queue{}, packDown(0, 29)[1:], 2047},
		{impl.Queue{Packs: packsOf(30), Sent: 1}, impl.Queue{Packs: packsOf(30), Sent: 29}, packDown(0, 30)[1:29], 2047},
		{impl.Queue{Packs: packsOf(27)}, impl.Queue{Packs: []string{idle(7)}, Sent: 1}, packDown(0, 27) + idle(7)[:1], 0},
		{impl.Queue{Packs: packsOf(22)}, impl.Queue{Packs: []string{idle(7)}, Sent: 6}, packDown(0, 22) + idle(7)[:6], 0},
		{impl.Queue{Packs: packsOf(21)}, impl.Queue{}, packDown(0, 21) + idle(7), 0},
		{impl.Queue{Packs: packsOf(20)}, impl.Queue{}, packDown(0, 20) + idle(8), 0},
		{impl.Queue{Packs: packsOf(7), Sent: 6}, impl.Queue{}, "d" + idle(27), 1},
		{impl.Queue{Packs: packsOf(106)}, impl.Queue{Packs: packsOf(106), Sent: 28}, packDown(0, 106)[:28], 0},
		{impl.Queue{Packs: packsOf(106, 7), Sent: 79}, impl.Queue{Packs: []string{packDown(1, 7)}, Sent: 1}, packDown(0, 106)[79:] + packDown(1, 7)[:1], 27},
		{impl.Queue{Packs: packsOf(106, 7), Sent: 78}, impl.Queue{Packs: []string{packDown(1, 7)}}, packDown(0, 106)[78:], 2047},
		{impl.Queue{Packs: []string{idle(7)}, Sent: 6}, impl.Queue{}, "\x55" + idle(27), 1},
		{impl.Queue{}, impl.Queue{}, strings.Repeat("\x55", 28), 2046},
	} {
		x, data, first := impl.QueueFill(c.q)
		want(t, sameQueue(x, c.left) && data == c.data && first == c.first, "QueueFill(%v) is %v, %q, %d", c.q, x, data, first)
	}
}

func TestP48AllThatWaitsGoesDown(t *testing.T) {
	dice := newDice(124)
	for _, q := range manyQueues() {
		begun := min(q.Sent, 1)
		var asked, told []string
		for _, pack := range q.Packs[begun:] {
			if pack[0]&7 != 7 || pack[1] != 255 {
				asked = append(asked, pack)
			}
		}
		sent := ""
		own := []int{0, 250, 255, dice.Intn(256)}[dice.Intn(4)]
		h := impl.Hears{Next: []int{own, dice.Intn(256)}[dice.Intn(2)]}
		all := strings.Join(q.Packs, "")[q.Sent:]
		for frames := 0; len(q.Packs) > 0; frames++ {
			want(t, frames < 40, "it never ends")
			left, data, first := impl.QueueFill(q)
			after, packs := impl.HearsDown(h, downOf(own, first, data))
			own = (own + 1) % 256
			want(t, after.Next == own, "the next is %d, not %d", after.Next, own)
			sent, told, q, h = sent+data, append(told, packs...), left, after
		}
		want(t, sameTexts(told, asked), "%q were told, not %q", told, asked)
		want(t, strings.HasPrefix(sent, all) && len(sent)-len(all) < 35, "%q went down, not %q", sent, all)
		want(t, h.Text == "", "%q is left", h.Text)
	}
}

func TestP48PutWhileItGoesDown(t *testing.T) {
	dice := newDice(125)
	for range 60 {
		var q impl.Queue
		var h impl.Hears
		var asked, told []string
		for own := range 400 {
			for range dice.Intn(3) {
				rep := someRep(dice)
				rep.Data = rep.Data[:len(rep.Data)/3]
				x, ok := impl.QueuePut(q, impl.RepPut(rep))
				if ok {
					asked = append(asked, impl.RepPut(rep))
				}
				q = x
			}
			left, data, first := impl.QueueFill(q)
			after, packs := impl.HearsDown(h, downOf(own%256, first, data))
			q, h, told = left, after, append(told, packs...)
		}
		want(t, len(told) > 100 && sameTexts(told, asked[:len(told)]) && len(asked)-len(told) <= 9, "%d of %d were told", len(told), len(asked))
	}
}

func TestP49NothingWaits(t *testing.T) {
	for _, q := range []impl.Queue{{}, {Packs: []string{}}} {
		x, data, first := impl.QueueFill(q)
		want(t, sameQueue(x, impl.Queue{}) && data == strings.Repeat("\x55", 28) && first == impl.FirstIdle, "QueueFill(%v) is %v, %q, %d", q, x, data, first)
		for _, h := range []impl.Hears{{}, {Next: 7}, {Next: 7, Open: true}, {Next: 7, Open: true, Text: packDown(0, 35)[:7]}, {Next: 9, Open: true, Text: packDown(0, 35)[:7]}} {
			after, packs := impl.HearsDown(h, downOf(7, first, data))
			want(t, after == impl.Hears{Next: 8} && len(packs) == 0, "HearsDown(%v) of nothing is %v, %q", h, after, packs)
		}
	}
}

func TestP50PutBehindOthers(t *testing.T) {
	dice := newDice(126)
	for _, q := range manyQueues() {
		for _, text := range []string{packDown(9, 7), packDown(9, 106), impl.PacketPut(somePacket(dice)), idle(7), impl.CmdPut(impl.Cmd{Apid: 7})} {
			x, ok := impl.QueuePut(q, text)
			asked := impl.Queue{Packs: slices.Clone(q.Packs), Sent: q.Sent}
			if len(q.Packs) < 8 {
				asked.Packs = append(asked.Packs, text)
			}
			want(t, ok == (len(q.Packs) < 8) && sameQueue(x, asked) && impl.QueueOk(x), "QueuePut(%v, %q) is %v, %t", q, text, x, ok)
		}
		whole := packDown(9, 20)
		for _, text := range []string{"", "x", whole[:19], whole + "x", whole + whole, "x" + whole, strings.Repeat("d", 5000), "\x08\x07\xc0\x00\x00\x64" + strings.Repeat("d", 101)} {
			x, ok := impl.QueuePut(q, text)
			want(t, !ok && sameQueue(x, q), "QueuePut(%v, %q) is %v, %t", q, text, x, ok)
		}
	}
}

func TestP50NoMoreThanQueueMax(t *testing.T) {
	var q impl.Queue
	for n := range 12 {
		x, ok := impl.QueuePut(q, packDown(n, 20))
		want(t, ok == (n < 8) && len(x.Packs) == min(n+1, 8), "the packet %d waits: %t, there are %d", n, ok, len(x.Packs))
		q = x
	}
	want(t, sameTexts(q.Packs, packsOf(20, 20, 20, 20, 20, 20, 20, 20)), "there wait %q", q.Packs)
	full := impl.Queue{Packs: packsOf(20, 20, 20, 20, 20, 20, 20, 20, 20), Sent: 19}
	x, ok := impl.QueuePut(full, packDown(9, 20))
	want(t, !ok && sameQueue(x, full), "behind QueueMax + 1: %v, %t", x, ok)
}

func TestP51NothingIsPutTogetherAcrossAGap(t *testing.T) {
	dice := newDice(127)
	for range 4000 {
		h, d := someHears(dice), someDown(dice)
		if d.First < 28 && dice.Intn(2) == 0 {
			d.Data = d.Data[:d.First] + (packDown(1, 7+dice.Intn(30)) + packDown(2, 40))[:28-d.First]
		}
		if h.Next == d.Own {
			h.Next = (h.Next + 1 + dice.Intn(255)) % 256
		}
		after, packs := impl.HearsDown(h, d)
		fresh, asked := impl.HearsDown(impl.Hears{Next: d.Own}, d)
		want(t, after == fresh && sameTexts(packs, asked), "HearsDown(%v, %v) is %v, %q", h, d, after, packs)
	}
}

func TestP51AFrameIsMissing(t *testing.T) {
	q := impl.Queue{Packs: packsOf(40, 20, 60, 10, 30)}
	var frames []impl.Down
	for own := 254; len(q.Packs) > 0; own++ {
		left, data, first := impl.QueueFill(q)
		frames = append(frames, downOf(own%256, first, data))
		q = left
	}
	for missing, asked := range [][]int{{1, 2, 3, 4}, {2, 3, 4}, {0, 3, 4}, {0, 1, 3, 4}, {0, 1}, {0, 1, 2, 3}} {
		h := impl.Hears{Next: 254}
		var told []int
		for i, d := range frames {
			if i == missing {
				continue
			}
			after, packs := impl.HearsDown(h, d)
			for _, pack := range packs {
				told = append(told, int(pack[3]))
			}
			h = after
		}
		want(t, slices.Equal(told, asked), "without the frame %d of %d the packets %v are told", missing, len(frames), told)
	}
}

func TestP51TheNextGoesRound(t *testing.T) {
	for own := range 256 {
		for next := range 256 {
			h := impl.Hears{Next: next, Open: true, Text: packDown(0, 28)[:14]}
			after, packs := impl.HearsDown(h, downOf(own, impl.FirstNone, padded(packDown(0, 28)[14:], "x")))
			want(t, after.Next == (own+1)%256, "behind %d the next is %d", own, after.Next)
			want(t, (len(packs) == 1) == (own == next) && after.Open == false, "the frame %d, with %d next, tells %q, %v", own, next, packs, after)
		}
	}
}

func TestP52HearsJustAsAsked(t *testing.T) {
	dice := newDice(128)
	seen := map[int]int{}
	for range 20000 {
		h, d := someHears(dice), someDown(dice)
		if dice.Intn(2) == 0 {
			d.Own = h.Next
		}
		switch dice.Intn(3) {
		case 0:
			rest := ""
			if h.Open && len(h.Text) > 5 {
				rest = strings.Repeat("d", int(h.Text[5])+7)
				rest = rest[min(len(rest), len(h.Text)):]
			}
			d.Data = (rest + strings.Join(someQueue(dice).Packs, "") + d.Data)[:28]
		case 1:
			d.First = dice.Intn(28)
			d.Data = (d.Data[:d.First] + packDown(1, 7+dice.Intn(9)) + impl.PacketPut(somePacket(dice)) + d.Data)[:28]
		}
		after, packs := impl.HearsDown(h, d)
		asked, told := plainHears(h, d)
		want(t, after == asked && sameTexts(packs, told), "HearsDown(%v, %v) is %v, %q", h, d, after, packs)
		for _, pack := range packs {
			p, size := impl.PacketGet(pack, 0)
			want(t, size == len(pack) && size > 0 && p.Apid != 2047, "told is %q", pack)
		}
		seen[len(packs)]++
		again, _ := impl.HearsDown(after, d)
		want(t, again.Next == after.Next, "what is heard is not ok: %v", after)
	}
	want(t, seen[1] > 100 && seen[2] > 100 && seen[3] > 0, "only so many packets were told: %v", seen)
}

func TestP52WhatIsLeftBehindAPacket(t *testing.T) {
	for left := 0; left <= 21; left++ {
		data := packDown(0, 28-left) + packDown(1, 40)[:left]
		after, packs := impl.HearsDown(impl.Hears{}, downOf(0, 0, data))
		want(t, after == impl.Hears{Next: 1, Open: true, Text: packDown(1, 40)[:left]} && sameTexts(packs, packsOf(28-left)), "with %d left: %v, %q", left, after, packs)
	}
	for _, first := range []int{22, 23, 26, 27} {
		after, packs := impl.HearsDown(impl.Hears{}, downOf(0, first, strings.Repeat("\xff", 28)))
		want(t, after == impl.Hears{Next: 1, Open: true, Text: strings.Repeat("\xff", 28-first)} && len(packs) == 0, "from %d on: %v, %q", first, after, packs)
	}
	after, packs := impl.HearsDown(impl.Hears{}, downOf(0, 21, strings.Repeat("\xff", 28)))
	want(t, after == impl.Hears{Next: 1} && len(packs) == 0, "seven bytes that are none: %v, %q", after, packs)
}

func TestP52SizesThatAreToldWrong(t *testing.T) {
	for told := range 65536 {
		head := "\x08\x07\xc0\x00" + twoBytes(told)
		text := padded(head, "d")
		after, packs := impl.HearsDown(impl.Hears{}, downOf(4, 0, text))
		switch {
		case told > 99:
			want(t, after == impl.Hears{Next: 5} && len(packs) == 0, "with the size %d: %v, %q", told, after, packs)
		case told > 21:
			want(t, after == impl.Hears{Next: 5, Open: true, Text: text} && len(packs) == 0, "with the size %d: %v, %q", told, after, packs)
		default:
			want(t, len(packs) == 1 && packs[0] == text[:told+7], "with the size %d: %v, %q", told, after, packs)
		}
	}
}

func TestP52NoPacketEndsIt(t *testing.T) {
	good, bad := packDown(1, 9), "\x00"+packDown(2, 8)[1:]
	for _, c := range []struct {
		h     impl.Hears
		own   int
		first int
		data  string
		after impl.Hears
		told  []string
	}{
		{impl.Hears{}, 0, 0, padded(good+bad+good, "x"), impl.Hears{Next: 1}, []string{good}},
		{impl.Hears{}, 0, 0, padded(bad+good, "x"), impl.Hears{Next: 1}, nil},
		{impl.Hears{}, 0, 8, padded(bad+good, "x"), impl.Hears{Next: 1}, []string{good}},
		{impl.Hears{Open: true, Text: bad}, 0, 0, padded(good, "x"), impl.Hears{Next: 1}, nil},
		{impl.Hears{Open: true, Text: bad}, 9, 0, padded(good, "x"), impl.Hears{Next: 10}, []string{good}},
		{impl.Hears{Open: true}, 0, 9, good + good + packDown(3, 10), impl.Hears{Next: 1, Open: true}, []string{good, good, packDown(3, 10)}},
		{impl.Hears{}, 0, 9, good + good + packDown(3, 10), impl.Hears{Next: 1, Open: true}, []string{good, packDown(3, 10)}},
		{impl.Hears{}, 0, 2047, good + good + packDown(3, 10), impl.Hears{Next: 1}, nil},
		{impl.Hears{Open: true}, 0, 2047, good + good + packDown(3, 10), impl.Hears{Next: 1, Open: true}, []string{good, good, packDown(3, 10)}},
		{impl.Hears{Open: true}, 0, 2046, good + good + packDown(3, 10), impl.Hears{Next: 1}, nil},
		{impl.Hears{}, 0, 0, good + idle(9) + packDown(3, 10), impl.Hears{Next: 1, Open: true}, []string{good, packDown(3, 10)}},
		{impl.Hears{}, 0, 0, plainPacket(true, 2047, 5, "ab") + plainPacket(true, 2046, 5, strings.Repeat("d", 14)), impl.Hears{Next: 1, Open: true}, []string{plainPacket(true, 2046, 5, strings.Repeat("d", 14))}},
		{impl.Hears{Open: true, Text: packDown(0, 106)[:78]}, 0, 2047, packDown(0, 106)[78:], impl.Hears{Next: 1, Open: true}, packsOf(106)},
		{impl.Hears{Open: true, Text: packDown(0, 106)[:77]}, 0, 2047, packDown(0, 106)[77:105], impl.Hears{Next: 1, Open: true, Text: packDown(0, 106)[:105]}, nil},
		{impl.Hears{Open: true, Text: packDown(0, 106)}, 0, 0, good + good + packDown(3, 10), impl.Hears{Next: 1, Open: true}, []string{packDown(0, 106), good, good, packDown(3, 10)}},
	} {
		after, told := impl.HearsDown(c.h, downOf(c.own, c.first, c.data))
		want(t, after == c.after && sameTexts(told, c.told), "HearsDown(%v, %d, %d, %q) is %v, %q", c.h, c.own, c.first, c.data, after, told)
	}
}

func TestP46To52WhatIsNotOk(t *testing.T) {
	dice := newDice(129)
	for _, q := range badQueues() {
		x, ok := impl.QueuePut(q, packDown(0, 20))
		want(t, sameQueue(x, impl.Queue{}) && !ok, "QueuePut(%v) is %v, %t", q, x, ok)
		x, ok = impl.QueuePut(q, "x")
		want(t, sameQueue(x, impl.Queue{}) && !ok, "QueuePut(%v) is %v, %t", q, x, ok)
		x, data, first := impl.QueueFill(q)
		want(t, sameQueue(x, impl.Queue{}) && data == "" && first == 0, "QueueFill(%v) is %v, %q, %d", q, x, data, first)
	}
	for _, h := range badHears() {
		for _, d := range append(edgeDowns(), badDowns()...) {
			after, packs := impl.HearsDown(h, d)
			want(t, after == impl.Hears{} && len(packs) == 0, "HearsDown(%v, %v) is %v, %q", h, d, after, packs)
		}
	}
	for _, d := range badDowns() {
		for range 20 {
			h := someHears(dice)
			after, packs := impl.HearsDown(h, d)
			want(t, after == h && len(packs) == 0, "HearsDown(%v, %v) is %v, %q", h, d, after, packs)
		}
	}
	for _, h := range []impl.Hears{{Next: 255}, {Open: true, Text: strings.Repeat("\x00", 106)}, {Open: true}, {Next: 255, Open: true, Text: "x"}} {
		after, _ := impl.HearsDown(h, downOf(7, 0, packDown(0, 28)))
		want(t, after.Next == 8, "HearsDown(%v) is %v", h, after)
	}
}

func TestQueuesShareNoMemory(t *testing.T) {
	for _, q := range append(manyQueues()[:300], badQueues()...) {
		for _, call := range []func(impl.Queue) impl.Queue{
			func(q impl.Queue) impl.Queue { x, _ := impl.QueuePut(q, packDown(9, 20)); return x },
			func(q impl.Queue) impl.Queue { x, _ := impl.QueuePut(q, "x"); return x },
			func(q impl.Queue) impl.Queue { x, _, _ := impl.QueueFill(q); return x },
			func(q impl.Queue) impl.Queue { impl.QueueOk(q); return impl.Queue{} },
		} {
			sharesNothing(t, q.Packs, "mark", func(packs []string) []string {
				return call(impl.Queue{Packs: packs, Sent: q.Sent}).Packs
			})
		}
	}
}

func TestTextsThatAreHeardShareNoMemory(t *testing.T) {
	d := downOf(0, 0, packDown(0, 9)+packDown(1, 9)+packDown(2, 10))
	_, one := impl.HearsDown(impl.Hears{Open: true}, d)
	_, other := impl.HearsDown(impl.Hears{Open: true}, d)
	apart(t, func(i int) string { return strings.Repeat("x", i+1) }, one, other)
	_, packs := impl.HearsDown(impl.Hears{Open: true}, d)
	want(t, sameTexts(packs, packsOf(9, 9, 10)), "told are %q", packs)
}
