package tests

import (
	"math/rand"
	"slices"
	"testing"

	"loop.example/skyway/impl"
)

// opRule is what the document's table says of an op: the most that A and B may be, -1 standing for the program's last place.
type opRule struct {
	do, a, b int
}

// opRules are the ops of the document's table.
func opRules() []opRule {
	return []opRule{
		{1, 7, 9999}, {2, 7, 7}, {3, 7, 9999}, {4, 7, 0}, {5, 7, -1}, {6, 7, 0}, {7, 7, 0},
		{8, 7, 0}, {9, 7, 3}, {10, 7, 3}, {11, 0, 0}, {12, 7, 0}, {13, 7, 7},
	}
}

// mostB is the most that B may be in a program of so many ops.
func (r opRule) mostB(size int) int {
	if r.b < 0 {
		return size - 1
	}
	return r.b
}

// someOp is an op that is ok in a program of so many; values are small or near to the limit.
func someOp(dice *rand.Rand, size int) impl.Op {
	r := opRules()[dice.Intn(13)]
	op := impl.Op{Do: r.do, A: dice.Intn(r.a + 1), B: dice.Intn(r.mostB(size) + 1)}
	if r.b == 9999 && dice.Intn(2) == 0 {
		op.B %= 12
	}
	return op
}

// someProg is a program that is ok.
func someProg(dice *rand.Rand) []impl.Op {
	list := make([]impl.Op, 1+dice.Intn(16))
	for i := range list {
		list[i] = someOp(dice, len(list))
	}
	return list
}

// someValues are so many values, at edges, small, and any.
func someValues(dice *rand.Rand, count int) []int {
	list := make([]int, count)
	for i := range list {
		list[i] = []int{0, 1, 7, 8, 9998, 9999, dice.Intn(10), dice.Intn(10000)}[dice.Intn(8)]
	}
	return list
}

// someRunning is a program that runs, and is ok.
func someRunning(dice *rand.Rand) impl.Part {
	prog := someProg(dice)
	return impl.Part{Prog: prog, Cells: someValues(dice, 8), At: dice.Intn(len(prog)), Fails: dice.Intn(8) == 0, Box: someValues(dice, dice.Intn(5))}
}

// onePart is a program with cells, at its first op.
func onePart(cells []int, prog ...impl.Op) impl.Part {
	p := impl.PartNew(prog)
	copy(p.Cells, cells)
	return p
}

// manyParts are programs that run, of all ops and edges.
func manyParts() []impl.Part {
	dice := newDice(101)
	list := []impl.Part{}
	for range 3000 {
		list = append(list, someRunning(dice))
	}
	return list
}

// clonePart is a program in memory of its own.
func clonePart(p impl.Part) impl.Part {
	p.Prog, p.Cells, p.Box = slices.Clone(p.Prog), slices.Clone(p.Cells), slices.Clone(p.Box)
	return p
}

// samePart says whether two programs that run are the same.
func samePart(a impl.Part, b impl.Part) bool {
	return slices.Equal(a.Prog, b.Prog) && slices.Equal(a.Cells, b.Cells) && slices.Equal(a.Box, b.Box) && a.At == b.At && a.Fails == b.Fails
}

// plainStep does one op as the document says it.
func plainStep(p impl.Part, now int, ports []int) (impl.Part, []int, []impl.Said, bool) {
	p, ports = clonePart(p), slices.Clone(ports)
	if p.Fails {
		return p, ports, nil, false
	}
	op := p.Prog[p.At]
	a, b := op.A, op.B
	x := p.Cells[a]
	next, goes := p.At+1, true
	if next == len(p.Prog) {
		next, goes = 0, false
	}
	var said []impl.Said
	switch op.Do {
	case 1:
		x = b
	case 2:
		x += p.Cells[b]
	case 3:
		x += b
	case 4:
		if x > 0 {
			x--
		}
	case 5:
		if x > 0 {
			next, goes = b, true
		}
	case 6:
		said = []impl.Said{{Value: x}}
	case 7:
		said = []impl.Said{{Raise: true, Value: x}}
	case 8:
		x = now
	case 9:
		ports[b] = x
	case 10:
		x = ports[b]
	case 11:
		goes = false
	case 12:
		x = 0
		if len(p.Box) > 0 {
			x, p.Box = p.Box[0], p.Box[1:]
		}
	case 13:
		if p.Cells[b] > 7 {
			p.Fails = true
			return p, ports, nil, false
		}
		x = p.Cells[p.Cells[b]]
	}
	for x > 9999 {
		x -= 10000
	}
	p.Cells[a], p.At = x, next
	return p, ports, said, goes
}

// badProgs are programs that are not ok, each by one thing.
func badProgs() [][]impl.Op {
	list := [][]impl.Op{nil, {}, {{}}, {{Do: 14}}, {{Do: -1}}, {{Do: 11, A: 1}}, {{Do: 11, B: 1}}, {{Do: 5, B: 1}}}
	rest := impl.Op{Do: impl.OpRest}
	list = append(list, slices.Repeat([]impl.Op{rest}, 17), slices.Repeat([]impl.Op{rest}, 1000), []impl.Op{rest, {Do: 5, B: 2}}, []impl.Op{rest, {}, rest})
	for _, r := range opRules() {
		list = append(list, []impl.Op{{Do: r.do, A: r.a + 1}}, []impl.Op{{Do: r.do, A: -1}}, []impl.Op{rest, {Do: r.do, B: r.mostB(2) + 1}}, []impl.Op{{Do: r.do, B: -1}})
		for _, n := range farNumbers() {
			list = append(list, []impl.Op{{Do: r.do, A: n}}, []impl.Op{rest, {Do: r.do, B: n}, rest})
		}
	}
	for _, n := range farNumbers() {
		list = append(list, []impl.Op{{Do: n}})
	}
	return list
}

// badParts are programs that run and are not ok, each by one thing.
func badParts() []impl.Part {
	good := func() impl.Part {
		return onePart([]int{1, 2, 3, 4, 5, 6, 7, 8}, impl.Op{Do: impl.OpTell}, impl.Op{Do: impl.OpRest})
	}
	var list []impl.Part
	change := func(f func(p *impl.Part)) {
		p := good()
		f(&p)
		list = append(list, p)
	}
	list = append(list, impl.Part{})
	for _, prog := range badProgs() {
		change(func(p *impl.Part) { p.Prog = prog })
	}
	for _, cells := range [][]int{nil, make([]int, 7), make([]int, 9), make([]int, 1000)} {
		change(func(p *impl.Part) { p.Cells = cells })
	}
	change(func(p *impl.Part) { p.Box = make([]int, 5) })
	for _, n := range append(farNumbers(), -1, 10000) {
		change(func(p *impl.Part) { p.Cells[0] = n })
		change(func(p *impl.Part) { p.Cells[7] = n })
		change(func(p *impl.Part) { p.Box = []int{n} })
		change(func(p *impl.Part) { p.Box = []int{0, 1, 2, n} })
		change(func(p *impl.Part) { p.At = n })
	}
	change(func(p *impl.Part) { p.At = 2 })
	for _, p := range slices.Clone(list) {
		p.Fails = true
		list = append(list, p)
	}
	return list
}

// badPorts are ports that are not ok.
func badPorts() [][]int {
	list := [][]int{nil, {}, {1, 2, 3}, {1, 2, 3, 4, 5}, make([]int, 1000)}
	for _, n := range append(farNumbers(), -1, 10000) {
		list = append(list, []int{n, 0, 0, 0}, []int{0, 0, 0, n})
	}
	return list
}

func TestP37ProgramsThatAreOk(t *testing.T) {
	for size := 1; size <= 16; size++ {
		rest := slices.Repeat([]impl.Op{{Do: impl.OpRest}}, size)
		want(t, impl.ProgOk(rest), "%d ops are not ok", size)
		for _, r := range opRules() {
			for _, a := range []int{0, r.a} {
				for _, b := range []int{0, r.mostB(size)} {
					for _, at := range []int{0, size - 1} {
						prog := slices.Clone(rest)
						prog[at] = impl.Op{Do: r.do, A: a, B: b}
						want(t, impl.ProgOk(prog), "%v is not ok", prog)
					}
				}
			}
		}
	}
	for _, prog := range badProgs() {
		want(t, !impl.ProgOk(prog), "%v is ok", prog)
	}
}

func TestP37EachOpAsTheTableSaysIt(t *testing.T) {
	rules := map[int]opRule{}
	for _, r := range opRules() {
		rules[r.do] = r
	}
	for do := -2; do < 20; do++ {
		for a := -2; a < 12; a++ {
			for _, b := range []int{-2, -1, 0, 1, 2, 3, 4, 5, 6, 7, 8, 9, 9998, 9999, 10000, 10001} {
				r, is := rules[do]
				asked := is && a >= 0 && a <= r.a && b >= 0 && b <= r.mostB(3)
				prog := []impl.Op{{Do: impl.OpRest}, {Do: do, A: a, B: b}, {Do: impl.OpRest}}
				want(t, impl.ProgOk(prog) == asked, "whether %v is ok is %t", prog, !asked)
			}
		}
	}
}

func TestP37ProgramsBeginWithAllCells0(t *testing.T) {
	dice := newDice(102)
	for range 500 {
		prog := someProg(dice)
		p := impl.PartNew(prog)
		want(t, impl.PartOk(p) && samePart(p, impl.Part{Prog: prog, Cells: make([]int, 8)}), "PartNew(%v) is %v", prog, p)
	}
	for _, prog := range badProgs() {
		want(t, samePart(impl.PartNew(prog), impl.Part{}), "PartNew(%v) is %v", prog, impl.PartNew(prog))
	}
}

func TestP37PartsThatAreOk(t *testing.T) {
	for _, p := range manyParts() {
		want(t, impl.PartOk(p), "%v is not ok", p)
	}
	full := impl.Part{Prog: slices.Repeat([]impl.Op{{Do: impl.OpJump, A: 7, B: 15}}, 16), Cells: slices.Repeat([]int{9999}, 8), At: 15, Fails: true, Box: slices.Repeat([]int{9999}, 4)}
	want(t, impl.PartOk(full), "%v is not ok", full)
	for _, p := range badParts() {
		want(t, !impl.PartOk(p), "%v is ok", p)
	}
}

func TestP38EachOpDoesWhatTheTableSays(t *testing.T) {
	cells := []int{5, 0, 9999, 9998, 7, 8, 1, 2}
	ports := []int{10, 0, 9999, 40}
	for _, c := range []struct {
		op         impl.Op
		cell, port int
		said       []impl.Said
	}{
		{impl.Op{Do: impl.OpSet, A: 0, B: 9999}, 9999, 9999, nil}, {impl.Op{Do: impl.OpSet, A: 0, B: 0}, 0, 9999, nil},
		{impl.Op{Do: impl.OpAdd, A: 0, B: 4}, 12, 9999, nil}, {impl.Op{Do: impl.OpAdd, A: 0, B: 2}, 4, 9999, nil}, {impl.Op{Do: impl.OpAdd, A: 2, B: 2}, 9998, 9999, nil},
		{impl.Op{Do: impl.OpAdd, A: 3, B: 6}, 9999, 9999, nil}, {impl.Op{Do: impl.OpAdd, A: 2, B: 6}, 0, 9999, nil}, {impl.Op{Do: impl.OpAdd, A: 0, B: 0}, 10, 9999, nil},
		{impl.Op{Do: impl.OpMore, A: 0, B: 4}, 9, 9999, nil}, {impl.Op{Do: impl.OpMore, A: 3, B: 1}, 9999, 9999, nil}, {impl.Op{Do: impl.OpMore, A: 2, B: 1}, 0, 9999, nil},
		{impl.Op{Do: impl.OpMore, A: 2, B: 9999}, 9998, 9999, nil}, {impl.Op{Do: impl.OpMore, A: 1, B: 0}, 0, 9999, nil},
		{impl.Op{Do: impl.OpLess, A: 0}, 4, 9999, nil}, {impl.Op{Do: impl.OpLess, A: 1}, 0, 9999, nil}, {impl.Op{Do: impl.OpLess, A: 6}, 0, 9999, nil}, {impl.Op{Do: impl.OpLess, A: 2}, 9998, 9999, nil},
		{impl.Op{Do: impl.OpTell, A: 0}, 5, 9999, []impl.Said{{Value: 5}}}, {impl.Op{Do: impl.OpTell, A: 2}, 9999, 9999, []impl.Said{{Value: 9999}}},
		{impl.Op{Do: impl.OpRaise, A: 0}, 5, 9999, []impl.Said{{Raise: true, Value: 5}}}, {impl.Op{Do: impl.OpRaise, A: 1}, 0, 9999, []impl.Said{{Raise: true}}},
		{impl.Op{Do: impl.OpTime, A: 0}, 2345, 9999, nil},
		{impl.Op{Do: impl.OpOut, A: 0, B: 2}, 5, 5, nil}, {impl.Op{Do: impl.OpOut, A: 1, B: 2}, 0, 0, nil},
		{impl.Op{Do: impl.OpIn, A: 0, B: 2}, 9999, 9999, nil}, {impl.Op{Do: impl.OpIn, A: 0, B: 3}, 40, 9999, nil}, {impl.Op{Do: impl.OpIn, A: 0, B: 1}, 0, 9999, nil},
		{impl.Op{Do: impl.OpRest}, 5, 9999, nil}, {impl.Op{Do: impl.OpTake, A: 0}, 0, 9999, nil},
		{impl.Op{Do: impl.OpFar, A: 0, B: 4}, 2, 9999, nil}, {impl.Op{Do: impl.OpFar, A: 0, B: 1}, 5, 9999, nil}, {impl.Op{Do: impl.OpFar, A: 4, B: 4}, 2, 9999, nil},
	} {
		p := onePart(cells, c.op, impl.Op{Do: impl.OpRest})
		q, after, said, goes := impl.PartStep(p, 12345, ports)
		asked := slices.Clone(cells)
		asked[c.op.A] = c.cell
		want(t, slices.Equal(q.Cells, asked) && slices.Equal(after, []int{10, 0, c.port, 40}), "%v makes %v, %v", c.op, q.Cells, after)
		want(t, slices.Equal(said, c.said) && q.At == 1 && !q.Fails && goes == (c.op.Do != impl.OpRest), "%v says %v, is at %d, goes on: %t", c.op, said, q.At, goes)
	}
}

func TestP38StepsJustAsAsked(t *testing.T) {
	dice := newDice(103)
	seen := map[impl.Op]int{}
	for _, p := range manyParts() {
		now := []int{0, 1, 9999, 10000, 10001, 99999, dice.Intn(100000)}[dice.Intn(7)]
		ports := someValues(dice, 4)
		q, after, said, goes := impl.PartStep(p, now, ports)
		x, asked, says, on := plainStep(p, now, ports)
		want(t, samePart(q, x) && slices.Equal(after, asked) && slices.Equal(said, says) && goes == on, "PartStep(%v, %d, %v) is %v, %v, %v, %t", p, now, ports, q, after, said, goes)
		want(t, impl.PartOk(q) && slices.Equal(q.Prog, p.Prog) && len(said) <= 1 && len(after) == 4, "PartStep(%v) is %v, %v, %v", p, q, after, said)
		want(t, slices.Min(after) >= 0 && slices.Max(after) <= 9999, "PartStep(%v) has the ports %v", p, after)
		seen[impl.Op{Do: p.Prog[p.At].Do}]++
	}
	want(t, len(seen) == 13, "only some ops were done: %v", seen)
}

func TestP38TimesThatAreNoValues(t *testing.T) {
	for now, asked := range map[int]int{0: 0, 1: 1, 9999: 9999, 10000: 0, 10001: 1, 19999: 9999, 20000: 0, 99999: 9999, 90000: 0} {
		p, _, _, _ := impl.PartStep(onePart(nil, impl.Op{Do: impl.OpTime, A: 7}), now, make([]int, 4))
		want(t, p.Cells[7] == asked, "at %d the cell becomes %d", now, p.Cells[7])
	}
}

func TestP38FailedStaysAsItIs(t *testing.T) {
	ports := []int{1, 2, 3, 4}
	for _, p := range manyParts() {
		p.Fails = true
		q, after, said, goes := impl.PartStep(p, 5, ports)
		want(t, samePart(q, p) && slices.Equal(after, ports) && len(said) == 0 && !goes, "PartStep(%v) is %v, %v, %v, %t", p, q, after, said, goes)
	}
}

func TestP38WhereItGoes(t *testing.T) {
	tell, rest := impl.Op{Do: impl.OpTell}, impl.Op{Do: impl.OpRest}
	jump := func(cell int, place int) impl.Op { return impl.Op{Do: impl.OpJump, A: cell, B: place} }
	for _, c := range []struct {
		prog   []impl.Op
		at, to int
		goes   bool
	}{
		{[]impl.Op{tell, tell, tell}, 0, 1, true}, {[]impl.Op{tell, tell, tell}, 1, 2, true}, {[]impl.Op{tell, tell, tell}, 2, 0, false}, {[]impl.Op{tell}, 0, 0, false},
		{[]impl.Op{rest, tell}, 0, 1, false}, {[]impl.Op{tell, rest}, 1, 0, false}, {[]impl.Op{rest}, 0, 0, false},
		{[]impl.Op{jump(1, 2), tell, tell}, 0, 2, true}, {[]impl.Op{jump(0, 2), tell, tell}, 0, 1, true}, {[]impl.Op{jump(1, 0), tell, tell}, 0, 0, true},
		{[]impl.Op{tell, jump(1, 1), tell}, 1, 1, true}, {[]impl.Op{tell, tell, jump(1, 0)}, 2, 0, true}, {[]impl.Op{tell, tell, jump(0, 1)}, 2, 0, false},
		{[]impl.Op{tell, tell, jump(1, 2)}, 2, 2, true}, {[]impl.Op{jump(1, 0)}, 0, 0, true}, {[]impl.Op{jump(0, 0)}, 0, 0, false},
		{[]impl.Op{tell, jump(1, 0)}, 1, 0, true},
	} {
		p := onePart([]int{0, 1}, c.prog...)
		p.At = c.at
		q, _, _, goes := impl.PartStep(p, 0, make([]int, 4))
		want(t, q.At == c.to && goes == c.goes, "%v goes to %d, goes on: %t", p, q.At, goes)
	}
}

func TestP39RunIsStepAgainAndAgain(t *testing.T) {
	dice := newDice(104)
	ends := 0
	for n, p := range manyParts() {
		now, most := dice.Intn(100000), []int{0, 1, 2, 3, 7, 40, 9999}[n%7]
		ports := someValues(dice, 4)
		q, after, said := impl.PartRun(p, now, ports, most)
		asked, askedPorts, askedSaid := clonePart(p), slices.Clone(ports), []impl.Said(nil)
		for goes := true; goes && most > 0; most-- {
			var more []impl.Said
			asked, askedPorts, more, goes = impl.PartStep(asked, now, askedPorts)
			askedSaid = append(askedSaid, more...)
			if !goes {
				ends++
			}
		}
		want(t, samePart(q, asked) && slices.Equal(after, askedPorts) && slices.Equal(said, askedSaid), "PartRun(%v, %d, %v) is %v, %v, %v", p, now, ports, q, after, said)
	}
	want(t, ends > 100, "only %d ended ahead of their most", ends)
}

func TestP39NoMoreThanMost(t *testing.T) {
	p := onePart([]int{0, 1}, impl.Op{Do: impl.OpMore, B: 1}, impl.Op{Do: impl.OpJump, A: 1, B: 0})
	for _, most := range []int{0, 1, 2, 3, 4, 40, 41, 9998, 9999} {
		q, ports, said := impl.PartRun(p, 7, []int{1, 2, 3, 4}, most)
		want(t, q.Cells[0] == (most+1)/2 && q.At == most%2 && slices.Equal(ports, []int{1, 2, 3, 4}) && len(said) == 0, "of %d: %v", most, q)
	}
	tells := onePart([]int{3, 1}, impl.Op{Do: impl.OpTell}, impl.Op{Do: impl.OpJump, A: 1, B: 0})
	_, _, said := impl.PartRun(tells, 7, make([]int, 4), 9999)
	want(t, len(said) == 5000, "it said %d things", len(said))
	for _, most := range append(farNumbers(), -1, 10000, -9999) {
		q, ports, said := impl.PartRun(p, 7, []int{1, 2, 3, 4}, most)
		want(t, samePart(q, impl.Part{}) && len(ports) == 0 && len(said) == 0, "of %d: %v, %v, %v", most, q, ports, said)
	}
}

func TestP39RunEndsWithTheTurn(t *testing.T) {
	more, rest := impl.Op{Do: impl.OpMore, B: 1}, impl.Op{Do: impl.OpRest}
	for _, c := range []struct {
		prog        []impl.Op
		at, to, sum int
	}{
		{[]impl.Op{more, more, more}, 0, 0, 3}, {[]impl.Op{more, more, more}, 1, 0, 2}, {[]impl.Op{more, rest, more}, 0, 2, 1}, {[]impl.Op{more, rest, more}, 2, 0, 1}, {[]impl.Op{more, more, rest}, 0, 0, 2},
		{[]impl.Op{more, {Do: impl.OpJump, B: 3}, rest, more}, 0, 0, 2},
	} {
		p := onePart(nil, c.prog...)
		p.At = c.at
		q, _, _ := impl.PartRun(p, 0, make([]int, 4), 9999)
		want(t, q.At == c.to && q.Cells[0] == c.sum, "%v becomes %v", p, q)
	}
}

func TestP40SentWaitsBehindAllElse(t *testing.T) {
	for _, p := range manyParts() {
		for _, value := range []int{0, 1, 9998, 9999} {
			q, ok := impl.PartSend(p, value)
			asked := clonePart(p)
			if len(p.Box) < 4 {
				asked.Box = append(asked.Box, value)
			}
			want(t, samePart(q, asked) && ok == (len(p.Box) < 4) && impl.PartOk(q), "PartSend(%v, %d) is %v, %t", p, value, q, ok)
		}
		for _, value := range append(farNumbers(), -1, 10000) {
			q, ok := impl.PartSend(p, value)
			want(t, samePart(q, p) && !ok, "PartSend(%v, %d) is %v, %t", p, value, q, ok)
		}
	}
}

func TestP40TakenInOrder(t *testing.T) {
	take := func(cell int) impl.Op { return impl.Op{Do: impl.OpTake, A: cell} }
	p := onePart(slices.Repeat([]int{77}, 8), take(0), take(1), take(2), take(3), take(4))
	for value := 1; value <= 6; value++ {
		q, ok := impl.PartSend(p, value)
		want(t, ok == (value <= 4), "the value %d is sent: %t", value, ok)
		p = q
	}
	for n := range 5 {
		p, _, _, _ = impl.PartStep(p, 0, make([]int, 4))
		want(t, len(p.Box) == max(3-n, 0), "behind %d there wait %v", n+1, p.Box)
	}
	want(t, slices.Equal(p.Cells, []int{1, 2, 3, 4, 0, 77, 77, 77}), "taken were %v", p.Cells)
}

func TestP41WithoutPortsOthersDoNotCount(t *testing.T) {
	dice := newDice(105)
	for _, p := range manyParts() {
		for i, op := range p.Prog {
			if op.Do == impl.OpIn || op.Do == impl.OpOut {
				p.Prog[i] = impl.Op{Do: impl.OpAdd, A: op.A, B: op.B}
			}
		}
		one, other := someValues(dice, 4), someValues(dice, 4)
		q, after, said := impl.PartRun(p, 5, one, 100)
		x, stay, says := impl.PartRun(p, 5, other, 100)
		want(t, samePart(q, x) && slices.Equal(said, says), "with other ports %v becomes %v, not %v", p, x, q)
		want(t, slices.Equal(after, one) && slices.Equal(stay, other), "the ports %v and %v became %v and %v", one, other, after, stay)
	}
}

func TestP42OnlyWhoLooksTooFarFails(t *testing.T) {
	far := impl.Op{Do: impl.OpFar, A: 1, B: 0}
	for cell := range 10000 {
		p := onePart([]int{cell, 5, 6, 7, 8, 9, 10, 11}, far, impl.Op{Do: impl.OpTell, A: 1})
		q, ports, said, goes := impl.PartStep(p, 0, []int{1, 2, 3, 4})
		asked := clonePart(p)
		if cell <= 7 {
			asked.Cells[1], asked.At = p.Cells[cell], 1
		} else {
			asked.Fails = true
		}
		want(t, samePart(q, asked) && goes == (cell <= 7), "PartStep(%v) is %v, %t", p, q, goes)
		want(t, slices.Equal(ports, []int{1, 2, 3, 4}) && len(said) == 0, "PartStep(%v) has %v, %v", p, ports, said)
	}
}

func TestP42FailedInTheMidst(t *testing.T) {
	p := onePart([]int{8, 3}, impl.Op{Do: impl.OpOut, A: 1, B: 0}, impl.Op{Do: impl.OpTell, A: 1}, impl.Op{Do: impl.OpFar, A: 2}, impl.Op{Do: impl.OpRaise, A: 1})
	q, ports, said := impl.PartRun(p, 0, make([]int, 4), 100)
	want(t, q.Fails && q.At == 2 && slices.Equal(q.Cells, p.Cells), "it became %v", q)
	want(t, slices.Equal(ports, []int{3, 0, 0, 0}) && slices.Equal(said, []impl.Said{{Value: 3}}), "ports are %v, it said %v", ports, said)
	q.Cells[0] = 1
	x, stay, more := impl.PartRun(q, 9, ports, 100)
	want(t, samePart(x, q) && slices.Equal(stay, ports) && len(more) == 0, "one that failed did %v, %v, %v", x, stay, more)
}

func TestP42WithoutFarNothingFails(t *testing.T) {
	seen := 0
	for _, p := range manyParts() {
		p.Fails = false
		q, _, _ := impl.PartRun(p, 5, []int{1, 2, 3, 4}, 60)
		has := slices.ContainsFunc(p.Prog, func(op impl.Op) bool { return op.Do == impl.OpFar })
		want(t, has || !q.Fails, "%v fails", p)
		if q.Fails {
			seen++
		}
		p.Fails = true
		q, after, said := impl.PartRun(p, 5, []int{1, 2, 3, 4}, 60)
		want(t, samePart(q, p) && slices.Equal(after, []int{1, 2, 3, 4}) && len(said) == 0, "one that failed did %v, %v, %v", q, after, said)
	}
	want(t, seen > 20, "only %d failed", seen)
}

// stepIsNothing holds PartStep and PartRun to answer nothing.
func stepIsNothing(t *testing.T, p impl.Part, now int, ports []int) {
	t.Helper()
	q, after, said, goes := impl.PartStep(p, now, ports)
	want(t, samePart(q, impl.Part{}) && len(after) == 0 && len(said) == 0 && !goes, "PartStep(%v, %d, %v) is %v, %v, %v, %t", p, now, ports, q, after, said, goes)
	for _, most := range []int{0, 1, 40} {
		q, after, said = impl.PartRun(p, now, ports, most)
		want(t, samePart(q, impl.Part{}) && len(after) == 0 && len(said) == 0, "PartRun(%v, %d, %v, %d) is %v, %v, %v", p, now, ports, most, q, after, said)
	}
}

func TestP38To42WhatIsNotOk(t *testing.T) {
	ports := []int{1, 2, 3, 4}
	for _, p := range badParts() {
		stepIsNothing(t, p, 5, ports)
		q, ok := impl.PartSend(p, 5)
		want(t, samePart(q, impl.Part{}) && !ok, "PartSend(%v) is %v, %t", p, q, ok)
		q, ok = impl.PartSend(p, -1)
		want(t, samePart(q, impl.Part{}) && !ok, "PartSend(%v) is %v, %t", p, q, ok)
	}
	for _, fails := range []bool{false, true} {
		p := onePart(nil, impl.Op{Do: impl.OpTell})
		p.Fails = fails
		for _, bad := range badPorts() {
			stepIsNothing(t, p, 5, bad)
		}
		for _, now := range append(farNumbers(), -1, 100000) {
			stepIsNothing(t, p, now, ports)
		}
	}
}

// partCalls are all calls that answer with a program, or change nothing; they answer with ports and what was said, too, if they have any.
func partCalls() []func(impl.Part, []int) (impl.Part, []int, []impl.Said) {
	return []func(impl.Part, []int) (impl.Part, []int, []impl.Said){
		func(p impl.Part, ports []int) (impl.Part, []int, []impl.Said) {
			q, after, said, _ := impl.PartStep(p, 7, ports)
			return q, after, said
		},
		func(p impl.Part, ports []int) (impl.Part, []int, []impl.Said) {
			return impl.PartRun(p, 99999, ports, 50)
		},
		func(p impl.Part, ports []int) (impl.Part, []int, []impl.Said) {
			return impl.PartRun(p, 7, ports, 0)
		},
		func(p impl.Part, ports []int) (impl.Part, []int, []impl.Said) {
			return impl.PartRun(p, 7, ports, -1)
		},
		func(p impl.Part, ports []int) (impl.Part, []int, []impl.Said) {
			q, _ := impl.PartSend(p, 5)
			return q, nil, nil
		},
		func(p impl.Part, ports []int) (impl.Part, []int, []impl.Said) {
			q, _ := impl.PartSend(p, -5)
			return q, nil, nil
		},
		func(p impl.Part, ports []int) (impl.Part, []int, []impl.Said) {
			impl.PartOk(p)
			impl.ProgOk(p.Prog)
			return impl.PartNew(p.Prog), nil, nil
		},
	}
}

func TestProgramsShareNoMemory(t *testing.T) {
	dice := newDice(106)
	for _, p := range append(manyParts()[:700], badParts()...) {
		for _, call := range partCalls() {
			prog, cells, box, ports := roomy(p.Prog, impl.Op{Do: 77}), roomy(p.Cells, 77), roomy(p.Box, 77), roomy(someValues(dice, 4), 77)
			given := impl.Part{Prog: prog[:len(p.Prog)], Cells: cells[:len(p.Cells)], At: p.At, Fails: p.Fails, Box: box[:len(p.Box)]}
			wasPorts := slices.Clone(ports)
			q, after, said := call(given, ports[:4])
			want(t, slices.Equal(prog, roomy(p.Prog, impl.Op{Do: 77})) && slices.Equal(cells, roomy(p.Cells, 77)) && slices.Equal(box, roomy(p.Box, 77)) && slices.Equal(ports, wasPorts), "a call changed %v into %v, %v, %v, %v", p, prog, cells, box, ports)
			apart(t, func(i int) int { return i }, cells, box, ports, q.Cells, q.Box, after)
			apart(t, func(i int) impl.Op { return impl.Op{Do: i} }, prog, q.Prog)
			apart(t, func(i int) impl.Said { return impl.Said{Value: i} }, said)
		}
	}
}
