package impl

// FopMost is how many frames may be under way.
const FopMost = 4

// Fop is who sends frames in order: which number is next, frames that were sent and not answered for, and whether it was told that all is shut.
type Fop struct {
	Craft int
	Via   int
	Next  int
	Sent  []string
	Shut  bool
}

// sentRing is data under way; what goes leaves its room in the array to what comes.
type sentRing struct {
	texts [FopMost]string
	first int
	size  int
}

// FopOk says whether it is ok.
func FopOk(f Fop) bool {
	if len(f.Sent) > FopMost {
		return false
	}
	for _, data := range f.Sent {
		if !frameDataOk(data) {
			return false
		}
	}
	return upTo(f.Craft, CraftMax) && upTo(f.Via, ViaMax) && upTo(f.Next, SeqMax)
}

// FopSend sends data, if it may.
func FopSend(f Fop, data string) (Fop, []Frame) {
	if !FopOk(f) {
		return Fop{}, nil
	}
	sent := newSentRing(f.Sent)
	var frames []Frame
	if !f.Shut && frameDataOk(data) && sent.push(data) {
		seq := seqNum(f.Next)
		frames = []Frame{fopFrame(f, seq, data)}
		f.Next = int(seq.next())
	}
	f.Sent = sent.list()
	return f, frames
}

// FopHear hears how the other end stands; false, if that cannot be.
func FopHear(f Fop, x Farm) (Fop, bool) {
	if !FopOk(f) {
		return Fop{}, false
	}
	sent := newSentRing(f.Sent)
	can := FarmOk(x) && sent.drop(seqNum(x.Next).since(seqNum(FopFirst(f))))
	if can {
		f.Shut = x.Shut
	}
	f.Sent = sent.list()
	return f, can
}

// FopAgain is all frames that were not answered for, once more; if all is shut those that open it stand ahead.
func FopAgain(f Fop) []Frame {
	if !FopOk(f) {
		return nil
	}
	var frames []Frame
	if f.Shut {
		frames = append(frames, FarmOpen(f.Craft, f.Via))
	}
	seq := seqNum(FopFirst(f))
	for data := range newSentRing(f.Sent).each {
		frames = append(frames, fopFrame(f, seq, data))
		seq = seq.next()
	}
	return frames
}

// FopFirst is the number of the first frame that was not answered for.
func FopFirst(f Fop) int {
	if !FopOk(f) {
		return 0
	}
	return int(seqNum(f.Next).back(len(f.Sent)))
}

// fopFrame is a frame in order.
func fopFrame(f Fop, seq seqNum, data string) Frame {
	return Frame{Craft: f.Craft, Via: f.Via, Seq: int(seq), Data: data}
}

// newSentRing is a ring of all of a list, which FopOk let through.
func newSentRing(list []string) sentRing {
	var r sentRing
	for _, data := range list {
		r.push(data)
	}
	return r
}

// push lets data come behind all others; false, if there is no room.
func (r *sentRing) push(data string) bool {
	if r.size == FopMost {
		return false
	}
	r.texts[(r.first+r.size)%FopMost] = data
	r.size++
	return true
}

// drop lets the first so many go; false, if there are not as many.
func (r *sentRing) drop(count int) bool {
	if count > r.size {
		return false
	}
	r.first = (r.first + count) % FopMost
	r.size -= count
	return true
}

// each tells all data, the first first.
func (r sentRing) each(yield func(string) bool) {
	for i := range r.size {
		if !yield(r.texts[(r.first+i)%FopMost]) {
			return
		}
	}
}

// list is all data, in memory of its own.
func (r sentRing) list() []string {
	list := make([]string, 0, r.size)
	for data := range r.each {
		list = append(list, data)
	}
	return list
}
