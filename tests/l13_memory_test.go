package tests

import (
	"reflect"
	"slices"
	"strings"
	"testing"

	"loop.example/skyway/impl"
)

// execLists are all lists of crafts, by what they are of.
type execLists struct {
	ints   [][]int
	ops    [][]impl.Op
	texts  [][]string
	items  [][]impl.Item
	parts  [][]impl.Part
	queues [][]impl.Queue
	gots   [][]impl.Got
}

// add takes all lists of a craft.
func (l *execLists) add(e impl.Exec) {
	l.ints = append(l.ints, e.Ports, e.Counts, e.Owns)
	for _, p := range e.Parts {
		l.ints = append(l.ints, p.Cells, p.Box)
		l.ops = append(l.ops, p.Prog)
	}
	for _, q := range e.Queues {
		l.texts = append(l.texts, q.Packs)
	}
	l.items = append(l.items, e.Plan.Items)
	l.parts = append(l.parts, e.Parts)
	l.queues = append(l.queues, e.Queues)
}

// addConf takes the lists of how a craft is made.
func (l *execLists) addConf(c impl.Conf) {
	l.ints = append(l.ints, c.Apids, c.Budgets, c.Plain, c.Safe, c.Down)
	l.ops = append(l.ops, c.Progs...)
}

// apart holds all lists to share no memory; inner lists come first, as the outer ones lose theirs.
func (l *execLists) apart(t *testing.T) {
	t.Helper()
	apart(t, func(i int) int { return i }, l.ints...)
	apart(t, func(i int) impl.Op { return impl.Op{Do: i} }, l.ops...)
	apart(t, func(i int) string { return strings.Repeat("x", i) }, l.texts...)
	apart(t, func(i int) impl.Item { return impl.Item{Time: i} }, l.items...)
	apart(t, func(i int) impl.Got { return impl.Got{Time: i} }, l.gots...)
	apartBy(t, func(i int) impl.Part { return impl.Part{At: i} }, func(p impl.Part) int { return p.At }, l.parts)
	apartBy(t, func(i int) impl.Queue { return impl.Queue{Sent: i} }, func(q impl.Queue) int { return q.Sent }, l.queues)
}

// apartBy is apart, of what is told from others by a number.
func apartBy[T any](t *testing.T, mark func(int) T, number func(T) int, lists [][]T) {
	t.Helper()
	for i, list := range lists {
		room := list[:cap(list)]
		for j := range room {
			room[j] = mark(i)
		}
	}
	for i, list := range lists {
		for _, x := range list[:cap(list)] {
			want(t, number(x) == i, "list %d has what was written into another one: %v", i, x)
		}
	}
}

// roomyExec is a craft of which each list has room behind, in which a mark stands.
func roomyExec(e impl.Exec) impl.Exec {
	e.Plan.Items = roomy(e.Plan.Items, impl.Item{Time: 77})[:len(e.Plan.Items)]
	e.Parts = roomy(e.Parts, impl.Part{At: 77})[:len(e.Parts)]
	for i, p := range e.Parts {
		p.Prog = roomy(p.Prog, impl.Op{Do: 77})[:len(p.Prog)]
		p.Cells = roomy(p.Cells, 77)[:len(p.Cells)]
		p.Box = roomy(p.Box, 77)[:len(p.Box)]
		e.Parts[i] = p
	}
	e.Queues = roomy(e.Queues, impl.Queue{Sent: 77})[:len(e.Queues)]
	for i, q := range e.Queues {
		e.Queues[i].Packs = roomy(q.Packs, "mark")[:len(q.Packs)]
	}
	for _, list := range []*[]int{&e.Ports, &e.Counts, &e.Owns} {
		*list = roomy(*list, 77)[:len(*list)]
	}
	return e
}

// roomOfExec is a copy of a craft with all the room behind its lists.
func roomOfExec(e impl.Exec) []any {
	all := []any{e.Now, e.Mode, e.Want, e.Turn, e.Farm, e.Join, e.Plan.On, e.All, e.Slot, slices.Clone(e.Plan.Items[:cap(e.Plan.Items)])}
	for _, list := range [][]int{e.Ports, e.Counts, e.Owns} {
		all = append(all, slices.Clone(list[:cap(list)]))
	}
	for _, p := range e.Parts[:cap(e.Parts)] {
		all = append(all, p.At, p.Fails, slices.Clone(p.Prog[:cap(p.Prog)]), slices.Clone(p.Cells[:cap(p.Cells)]), slices.Clone(p.Box[:cap(p.Box)]))
	}
	for _, q := range e.Queues[:cap(e.Queues)] {
		all = append(all, q.Sent, slices.Clone(q.Packs[:cap(q.Packs)]))
	}
	return all
}

// execCall is a call with a craft that answers with one, and with what was done.
type execCall func(c impl.Conf, e impl.Exec) (impl.Exec, []impl.Got)

// execCalls are all calls that answer with a craft, with these to come up or to do, and such that are too long.
func execCalls(up string, text string) []execCall {
	tick := func(up string) execCall {
		return func(c impl.Conf, e impl.Exec) (impl.Exec, []impl.Got) {
			x, _, got := impl.ExecTick(c, e, up)
			return x, got
		}
	}
	cmd := func(text string) execCall {
		return func(c impl.Conf, e impl.Exec) (impl.Exec, []impl.Got) { return impl.ExecCmd(c, e, text) }
	}
	return []execCall{
		tick(up), tick(""), tick(strings.Repeat("x", 401)), cmd(text), cmd(""), cmd(strings.Repeat("x", 107)),
		func(c impl.Conf, e impl.Exec) (impl.Exec, []impl.Got) { return impl.ExecNew(c), nil },
		func(c impl.Conf, e impl.Exec) (impl.Exec, []impl.Got) { impl.ExecOk(c, e); return impl.Exec{}, nil },
	}
}

// execSharesNothing holds a call to change nothing that it is given, and to answer alike twice, each time in memory of its own.
func execSharesNothing(t *testing.T, c impl.Conf, e impl.Exec, call execCall) {
	t.Helper()
	c, e = roomyConf(c), roomyExec(e)
	wasConf, was := roomOf(c), roomOfExec(e)
	x, got := call(c, e)
	y, again := call(c, e)
	want(t, reflect.DeepEqual(roomOf(c), wasConf), "a call changed %v into %v", wasConf, roomOf(c))
	want(t, reflect.DeepEqual(roomOfExec(e), was), "a call changed %v into %v", was, roomOfExec(e))
	want(t, sameExec(x, y) && slices.Equal(got, again), "two calls answer %v, %v and %v, %v", x, got, y, again)
	lists := execLists{gots: [][]impl.Got{got, again}}
	lists.addConf(c)
	lists.add(e)
	lists.add(x)
	lists.add(y)
	lists.apart(t)
}

func TestP53To61CraftsShareNoMemory(t *testing.T) {
	dice := newDice(144)
	for range 400 {
		c := someFlying(dice)
		e := someExec(dice, c)
		for _, call := range execCalls(someUp(dice, c, e), someAsk(dice, c, e.Now)) {
			execSharesNothing(t, c, e, call)
		}
	}
}

func TestP53To61EachServiceSharesNoMemory(t *testing.T) {
	c := flying()
	for _, data := range []string{"", fourBytes(3), fourBytes(99) + "x", fourBytes(99999), "\x00\x09"} {
		for _, r := range c.Rules {
			e := impl.ExecNew(c)
			e.Plan.Items = []impl.Item{{Time: 1, Text: impl.CmdPut(asks(17, 1, ""))}, {Time: 9, Text: "z"}}
			e.Parts[0].Box, e.Parts[1].Box = []int{1, 2, 3}, []int{1, 2, 3, 4}
			e.Queues[0], e.Queues[1] = fullQueue(6), fullQueue(7)
			cmd := impl.Cmd{Source: 1, Apid: r.Apid, Service: r.Service, Sub: r.Sub, Data: data}
			for _, call := range execCalls(cmdUp(c, e, cmd), impl.CmdPut(cmd)) {
				execSharesNothing(t, c, e, call)
			}
		}
	}
}

func TestP53To61NothingIsChangedOfWhatIsNotOk(t *testing.T) {
	for _, e := range badExecs() {
		for _, call := range execCalls("", impl.CmdPut(asks(17, 1, ""))) {
			execSharesNothing(t, flying(), e, call)
		}
	}
	for _, faults := range confFaults() {
		for _, f := range faults {
			c := plainConf()
			e := impl.ExecNew(c)
			f(&c)
			for _, call := range execCalls("", impl.CmdPut(asks(17, 1, ""))) {
				execSharesNothing(t, c, e, call)
			}
		}
	}
}

func TestP53To61ListsThatAreGivenTwice(t *testing.T) {
	c := flying()
	c.Progs = [][]impl.Op{c.Progs[0], c.Progs[0]}
	e := impl.ExecNew(c)
	shared := []int{1, 2, 3, 4, 5, 6, 7, 8}
	e.Parts[0].Cells, e.Parts[1].Cells, e.Parts[0].Box, e.Ports = shared, shared, shared[:4], shared[:4]
	e.Counts, e.Owns, e.Parts[1].Prog = shared[:3], shared[:3], e.Parts[0].Prog
	e.Queues[0], e.Queues[2] = fullQueue(3), impl.Queue{}
	e.Queues[1] = e.Queues[0]
	for _, call := range execCalls(cmdUp(c, e, asks(17, 1, "")), impl.CmdPut(asks(17, 1, ""))) {
		x, got := call(c, e)
		lists := execLists{gots: [][]impl.Got{got}}
		lists.add(x)
		lists.apart(t)
	}
	want(t, slices.Equal(shared, []int{1, 2, 3, 4, 5, 6, 7, 8}), "a call changed what it was given into %v", shared)
}
