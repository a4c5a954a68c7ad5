package impl

import "strings"

// FarmHalf is how many frames ahead or behind are looked at.
const FarmHalf = 8

// What comes of a frame.
const (
	FarmTakes = 0
	FarmLate  = 1
	FarmEarly = 2
	FarmFar   = 3
	FarmWaits = 4
	FarmShut  = 5
	FarmBad   = 6
	FarmDone  = 7
)

// farmCount is how many counts there are of what was past the order.
const farmCount = 4

// What the bytes that tell how it stands begin with, and what stands for what in the third of them.
const (
	farmHead  = "\x01\x00"
	farmShut  = 32
	farmWaits = 16
	farmAgain = 8
	farmTimes = 2
)

// What frames that govern ask for: to open all, and to go on with a number, which stands behind.
const (
	orderOpen = "\x00"
	orderSet  = "\x82\x00"
)

// Farm is who keeps frames in order: shut, waiting, asking for frames again, how often it took what is past the order, and which number is next.
type Farm struct {
	Shut  bool
	Waits bool
	Again bool
	Count int
	Next  int
}

// standing is how who keeps order stands; each tells how it stands next.
type standing interface {
	hear(seq seqNum, room bool) (standing, int)
	set(next seqNum) standing
	farm() Farm
}

// keeper is what is alike however it stands.
type keeper struct {
	Farm
}

// takingFarm takes the next frame, if there is room.
type takingFarm struct {
	keeper
}

// waitingFarm takes nothing until it is told of room.
type waitingFarm struct {
	keeper
}

// shutFarm takes nothing until it is opened.
type shutFarm struct {
	keeper
}

// seqNum is a frame's number: a byte, so that it goes round behind SeqMax by itself.
type seqNum uint8

// FarmOk says whether it is ok.
func FarmOk(f Farm) bool {
	return upTo(f.Count, farmCount-1) && upTo(f.Next, SeqMax) && (f.Again || !f.Waits)
}

// FarmHear hears a frame, with room or without.
func FarmHear(f Farm, x Frame, room bool) (Farm, int) {
	if !FarmOk(f) {
		return Farm{}, FarmBad
	}
	if !FrameOk(x) {
		return f, FarmBad
	}
	switch kind := frameKindOf(x).(type) {
	case governs:
		return farmOrder(f, kind.order)
	case inOrder:
		next, code := farmStanding(f).hear(seqNum(kind.seq), room)
		return next.farm(), code
	}
	if !room {
		return f, FarmWaits
	}
	return farmCounted(f), FarmTakes
}

// FarmRoom has room again.
func FarmRoom(f Farm) Farm {
	if !FarmOk(f) {
		return Farm{}
	}
	f.Waits = false
	return f
}

// FarmPut says how it stands in four bytes.
func FarmPut(f Farm) string {
	if !FarmOk(f) {
		return ""
	}
	flags := farmTimes * f.Count
	if f.Shut {
		flags += farmShut
	}
	if f.Waits {
		flags += farmWaits
	}
	if f.Again {
		flags += farmAgain
	}
	return farmHead + NumPut(flags, 1) + NumPut(f.Next, 1)
}

// FarmGet reads how it stands.
func FarmGet(text string) (Farm, bool) {
	c := cursor{text: text}
	c.must(c.bytes(len(farmHead)) == farmHead)
	flags := c.number(1)
	f := Farm{
		Shut:  flags&farmShut != 0,
		Waits: flags&farmWaits != 0,
		Again: flags&farmAgain != 0,
		Count: flags / farmTimes % farmCount,
		Next:  c.number(1),
	}
	c.must(FarmPut(f) == text)
	if c.fault != nil {
		return Farm{}, false
	}
	return f, true
}

// FarmOpen is the frame that opens it again.
func FarmOpen(craft int, via int) Frame {
	return governFrame(craft, via, orderOpen)
}

// FarmSet is the frame that says which number is next.
func FarmSet(craft int, via int, next int) Frame {
	if !upTo(next, SeqMax) {
		return Frame{}
	}
	return governFrame(craft, via, orderSet+NumPut(next, 1))
}

// governFrame is a frame that governs; nothing, if that is not ok.
func governFrame(craft int, via int, order string) Frame {
	x := Frame{Past: true, Govern: true, Craft: craft, Via: via, Data: order}
	if !FrameOk(x) {
		return Frame{}
	}
	return x
}

// farmOrder does what a frame that governs asks for.
func farmOrder(f Farm, order string) (Farm, int) {
	if order == orderOpen {
		return farmCounted(Farm{Count: f.Count, Next: f.Next}), FarmDone
	}
	number, ok := strings.CutPrefix(order, orderSet)
	if !ok || len(number) != 1 {
		return f, FarmBad
	}
	return farmCounted(farmStanding(f).set(seqNum(number[0])).farm()), FarmDone
}

// farmCounted is one that took one more past the order.
func farmCounted(f Farm) Farm {
	f.Count = (f.Count + 1) % farmCount
	return f
}

// farmStanding is how it stands; who is shut is shut, whether it waits or not.
func farmStanding(f Farm) standing {
	k := keeper{f}
	switch {
	case f.Shut:
		return shutFarm{k}
	case f.Waits:
		return waitingFarm{k}
	}
	return takingFarm{k}
}

// hear takes a frame just if it is the next one and there is room.
func (f takingFarm) hear(seq seqNum, room bool) (standing, int) {
	ahead := seq.since(seqNum(f.Next))
	switch {
	case seqFar(ahead):
		return f.shut(), FarmFar
	case seqLate(ahead):
		return f, FarmLate
	case ahead > 0:
		f.Again = true
		return f, FarmEarly
	case !room:
		f.Waits, f.Again = true, true
		return waitingFarm{f.keeper}, FarmWaits
	}
	f.Again = false
	f.Next = int(seq.next())
	return f, FarmTakes
}

// hear takes nothing, but sees a frame that is too far off.
func (f waitingFarm) hear(seq seqNum, room bool) (standing, int) {
	ahead := seq.since(seqNum(f.Next))
	switch {
	case seqFar(ahead):
		return f.shut(), FarmFar
	case seqLate(ahead):
		return f, FarmLate
	}
	return f, FarmWaits
}

// hear takes nothing.
func (f shutFarm) hear(seq seqNum, room bool) (standing, int) {
	return f, FarmShut
}

// set goes on with another number, whatever it waited or asked for.
func (k keeper) set(next seqNum) standing {
	return takingFarm{keeper{Farm{Count: k.Count, Next: int(next)}}}
}

// set changes nothing of what is shut.
func (f shutFarm) set(next seqNum) standing {
	return f
}

// shut keeps all else, as only what opens it again ends that.
func (k keeper) shut() standing {
	k.Shut = true
	return shutFarm{k}
}

// farm is how it stands as others are told it.
func (k keeper) farm() Farm {
	return k.Farm
}

// next is the number behind it.
func (n seqNum) next() seqNum {
	return n + 1
}

// back is the number so many ahead of it.
func (n seqNum) back(count int) seqNum {
	return n - seqNum(count)
}

// since is how many numbers it is behind an earlier one.
func (n seqNum) since(earlier seqNum) int {
	return int(n - earlier)
}

// seqFar says whether a number so far ahead is neither one that comes soon nor one that was.
func seqFar(ahead int) bool {
	return ahead >= FarmHalf && !seqLate(ahead)
}

// seqLate says whether a number so far ahead, going round, is one that was.
func seqLate(ahead int) bool {
	return ahead > SeqMax-FarmHalf
}
