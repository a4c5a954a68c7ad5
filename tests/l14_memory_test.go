package tests

import (
	"cmp"
	"reflect"
	"runtime"
	"slices"
	"strconv"
	"sync"
	"testing"
	"time"

	"loop.example/skyway/impl"
)

// span is the memory of a list, the room behind it included.
type span struct {
	from, to uintptr
	name     string
}

// spansOf are the memories of all lists of a value, of those behind their ends, too.
func spansOf(v reflect.Value, name string) []span {
	var list []span
	switch v.Kind() {
	case reflect.Struct:
		for i := range v.NumField() {
			list = append(list, spansOf(v.Field(i), name+"."+v.Type().Field(i).Name)...)
		}
	case reflect.Slice:
		if v.Cap() == 0 {
			return nil
		}
		list = append(list, span{v.Pointer(), v.Pointer() + uintptr(v.Cap())*v.Type().Elem().Size(), name})
		if kind := v.Type().Elem().Kind(); kind != reflect.Struct && kind != reflect.Slice {
			return list
		}
		all := v.Slice(0, v.Cap())
		for i := range all.Len() {
			list = append(list, spansOf(all.Index(i), name+"["+strconv.Itoa(i)+"]")...)
		}
	}
	return list
}

// allOf tells all of a value, the room behind its lists included.
func allOf(v any) string {
	return string(tellAll(nil, reflect.ValueOf(v)))
}

// tellAll tells all of a value behind what was told.
func tellAll(told []byte, v reflect.Value) []byte {
	switch v.Kind() {
	case reflect.Struct:
		for i := range v.NumField() {
			told = tellAll(told, v.Field(i))
		}
	case reflect.Slice:
		told = append(strconv.AppendInt(append(told, '['), int64(v.Len()), 10), ':')
		all := v.Slice(0, v.Cap())
		for i := range all.Len() {
			told = tellAll(told, all.Index(i))
		}
		told = append(told, ']')
	case reflect.Int:
		told = append(strconv.AppendInt(told, v.Int(), 10), ',')
	case reflect.Bool:
		told = append(strconv.AppendBool(told, v.Bool()), ',')
	case reflect.String:
		told = append(strconv.AppendQuote(told, v.String()), ',')
	default:
		panic("no such thing is in a world: " + v.Kind().String())
	}
	return told
}

// spansApart holds memories to have nothing in common, neither with one another nor with others.
func spansApart(t *testing.T, list []span, others []span) {
	t.Helper()
	slices.SortFunc(list, func(a span, b span) int { return cmp.Compare(a.from, b.from) })
	for i := 1; i < len(list); i++ {
		want(t, list[i-1].to <= list[i].from, "%s and %s share memory", list[i-1].name, list[i].name)
	}
	for _, other := range others {
		// The ends ascend as the beginnings do, so the first that ends behind the other one begins is the only one to look at.
		at, _ := slices.BinarySearchFunc(list, other.from+1, func(a span, from uintptr) int { return cmp.Compare(a.to, from) })
		if at < len(list) {
			want(t, list[at].from >= other.to, "%s and %s share memory", list[at].name, other.name)
		}
	}
}

// roomyWorld is a world of which each list has room behind, in which a mark stands.
func roomyWorld(w impl.World) impl.World {
	w.Conf, w.Exec = roomyConf(w.Conf), roomyExec(w.Exec)
	w.Fop.Sent = roomy(w.Fop.Sent, "mark")[:len(w.Fop.Sent)]
	w.Wait = roomy(w.Wait, "mark")[:len(w.Wait)]
	w.Up = roomy(w.Up, impl.Link{Text: "mark"})[:len(w.Up)]
	w.Down = roomy(w.Down, "mark")[:len(w.Down)]
	w.Given = roomy(w.Given, impl.Cmd{Apid: 77})[:len(w.Given)]
	w.Done = roomy(w.Done, impl.Got{Time: 77})[:len(w.Done)]
	w.Hears = roomy(w.Hears, impl.Hears{Next: 77})[:len(w.Hears)]
	w.Reps = roomy(w.Reps, impl.Rep{Apid: 77})[:len(w.Reps)]
	return w
}

// worldCall is a call with a world that answers with one.
type worldCall func(w impl.World) impl.World

// worldCalls are all calls with a world, with these to happen; those that answer with no world are taken to answer with nothing.
func worldCalls(list ...impl.Event) []worldCall {
	calls := []worldCall{
		func(w impl.World) impl.World { return impl.WorldCalm(w, 1) },
		func(w impl.World) impl.World { return impl.WorldCalm(w, 0) },
		func(w impl.World) impl.World { return impl.WorldNew(w.Conf) },
		func(w impl.World) impl.World { return impl.WorldPlay(w.Conf, list) },
		func(w impl.World) impl.World { return impl.WorldPlay(w.Conf, make([]impl.Event, 301)) },
		func(w impl.World) impl.World { impl.WorldOk(w); return impl.World{} },
		func(w impl.World) impl.World { impl.WorldSafe(w); return impl.World{} },
		func(w impl.World) impl.World { impl.WorldStill(w); return impl.World{} },
		func(w impl.World) impl.World { impl.WorldBoard(w); return impl.World{} },
	}
	for _, e := range list {
		calls = append(calls, func(w impl.World) impl.World { x, _ := impl.WorldDo(w, e); return x })
	}
	return calls
}

// worldSharesNothing holds a call to change nothing that it is given, and to answer alike twice, each time in memory of its own.
func worldSharesNothing(t *testing.T, w impl.World, call worldCall) {
	t.Helper()
	w = roomyWorld(w)
	was := allOf(w)
	x, y := call(w), call(w)
	want(t, allOf(w) == was, "a call changed %s into %s", was, allOf(w))
	want(t, sameWorld(x, y), "two calls answer %v and %v", x, y)
	answers := append(spansOf(reflect.ValueOf(x), "the answer"), spansOf(reflect.ValueOf(y), "the second answer")...)
	spansApart(t, answers, spansOf(reflect.ValueOf(w), "the argument"))
}

func TestP62To73WorldsShareNoMemory(t *testing.T) {
	dice := newDice(167)
	for range 60 {
		c := someSteady(dice)
		list := append(allKinds(), someEvents(dice, c, 5)...)
		for _, w := range []impl.World{impl.WorldNew(c), someWorld(dice, c), impl.WorldPlay(c, someEvents(dice, c, 200))} {
			for _, call := range worldCalls(list...) {
				worldSharesNothing(t, w, call)
			}
		}
	}
}

func TestP62To73NothingIsChangedOfWhatIsNotOk(t *testing.T) {
	for i, w := range badWorlds() {
		// Those that are far too long are told apart from others by their sizes alone, so every third is enough.
		if i%3 == 0 {
			for _, call := range worldCalls(allKinds()[3:6]...) {
				worldSharesNothing(t, w, call)
			}
		}
	}
}

func TestP62To73ListsThatAreGivenTwice(t *testing.T) {
	c := flying()
	c.Progs = [][]impl.Op{c.Progs[0], c.Progs[0]}
	c.Plain = []int{0, 1, 0}
	c.Safe, c.Down = c.Plain, c.Plain
	shared := []int{1, 2, 3, 4, 5, 6, 7, 8}
	texts := []string{"a", "b", "c", "d"}
	w := impl.WorldNew(c)
	w.Conf = c
	w.Exec.Parts[0].Prog, w.Exec.Parts[1].Prog = c.Progs[0], c.Progs[0]
	w.Exec.Parts[0].Cells, w.Exec.Parts[1].Cells, w.Exec.Ports, w.Exec.Counts, w.Exec.Owns = shared, shared, shared[:4], shared[:3], shared[:3]
	w.Wait, w.Fop.Sent, w.Down = texts, texts, texts
	want(t, impl.WorldOk(w), "%v is not ok", w)
	was := allOf(w)
	for _, call := range worldCalls(allKinds()...) {
		x := call(w)
		spansApart(t, spansOf(reflect.ValueOf(x), "the answer"), spansOf(reflect.ValueOf(w), "the argument"))
		want(t, allOf(w) == was, "a call changed what it was given into %v", w)
	}
}

func TestP69TheListOfAPlayStays(t *testing.T) {
	dice := newDice(168)
	c := flying()
	list := someEvents(dice, c, 100)
	given := roomy(list, impl.Event{Kind: 77})[:len(list)]
	was := allOf(given)
	impl.WorldPlay(c, given)
	want(t, allOf(given) == was, "a play changed its list into %v", given)
}

// settles says whether there are no more goroutines than there were; one that is over may be counted for a moment still.
func settles(before int) bool {
	for range 200 {
		if runtime.NumGoroutine() <= before {
			return true
		}
		time.Sleep(time.Millisecond)
	}
	return false
}

func TestP62To73NoGoroutinesAreLeft(t *testing.T) {
	dice := newDice(169)
	worlds := []impl.World{{}, impl.WorldNew(flying()), someWorld(dice, flying())}
	last := impl.WorldNew(flying())
	last.Exec.Now = 99999
	worlds = append(worlds, last, badTraffic()[0])
	for _, w := range worlds {
		before := runtime.NumGoroutine()
		for _, call := range worldCalls(append(allKinds(), someEvents(dice, flying(), 30)...)...) {
			for range 3 {
				call(w)
			}
		}
		want(t, settles(before), "there were %d goroutines, then %d", before, runtime.NumGoroutine())
	}
}

func TestP62To73AnswersDoNotHangOnGoroutines(t *testing.T) {
	dice := newDice(170)
	defer runtime.GOMAXPROCS(runtime.GOMAXPROCS(0))
	for range 6 {
		c := someSteady(dice)
		list := someEvents(dice, c, 120)
		asked := impl.WorldNew(c)
		for _, e := range list {
			asked, _ = plainWorldDo(asked, e)
		}
		calm := plainCalm(asked, 2)
		tick, _ := plainWorldDo(asked, impl.Event{Kind: impl.WorldTick})
		for _, cores := range []int{1, 2, 8} {
			runtime.GOMAXPROCS(cores)
			fits := make([]bool, 24)
			var all sync.WaitGroup
			for i := range fits {
				all.Go(func() {
					w := impl.WorldPlay(c, list)
					x, _ := impl.WorldDo(asked, impl.Event{Kind: impl.WorldTick})
					fits[i] = sameWorld(w, asked) && sameWorld(impl.WorldCalm(asked, 2), calm) && sameWorld(x, tick)
				})
			}
			all.Wait()
			for i, fit := range fits {
				want(t, fit, "on %d cores the call %d answers otherwise", cores, i)
			}
		}
	}
}
