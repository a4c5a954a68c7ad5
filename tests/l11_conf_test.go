package tests

import (
	"math/rand"
	"reflect"
	"slices"
	"testing"

	"loop.example/skyway/impl"
)

// someConf is how a craft is made that is right.
func someConf(dice *rand.Rand) impl.Conf {
	c := impl.Conf{Craft: dice.Intn(1024), Via: dice.Intn(64), Rules: someRules(dice, dice.Intn(13)), Limit: dice.Intn(10000)}
	for i := range 1 + dice.Intn(3) {
		c.Progs = append(c.Progs, someProg(dice))
		c.Apids = append(c.Apids, 1+i*600+dice.Intn(600))
		c.Budgets = append(c.Budgets, 1+dice.Intn(40))
	}
	for range 1 + dice.Intn(8) {
		c.Plain = append(c.Plain, dice.Intn(len(c.Progs)+1)-1)
		c.Safe = append(c.Safe, dice.Intn(len(c.Progs)+1)-1)
	}
	for range 1 + dice.Intn(8) {
		c.Down = append(c.Down, dice.Intn(len(c.Progs)+1))
	}
	return c
}

// plainConf is a craft with two programs that is right; each call makes a new one.
func plainConf() impl.Conf {
	return impl.Conf{
		Craft: 5, Via: 3,
		Progs:   [][]impl.Op{{{Do: impl.OpTell}}, {{Do: impl.OpTake}, {Do: impl.OpRest}}},
		Apids:   []int{7, 8},
		Budgets: []int{9, 10},
		Plain:   []int{0, 1, -1},
		Safe:    []int{-1, -1, 0},
		Down:    []int{0, 1, 2, 0},
		Rules:   []impl.Rule{{Source: 1, Apid: 7, Service: 8, Sub: 1, Plain: true}},
		Limit:   50,
	}
}

// fullConf is a craft that is right, with all limits met exactly.
func fullConf() impl.Conf {
	prog := slices.Repeat([]impl.Op{{Do: impl.OpMore, A: 7, B: 9999}}, 16)
	return impl.Conf{
		Craft: 1023, Via: 63,
		Progs:   [][]impl.Op{prog, prog, prog},
		Apids:   []int{2046, 1, 2045},
		Budgets: []int{40, 1, 40},
		Plain:   []int{2, 2, 2, 2, 2, 2, 2, -1},
		Safe:    []int{-1, -1, -1, -1, -1, -1, -1, 2},
		Down:    []int{3, 3, 3, 3, 3, 3, 3, 0},
		Rules:   slices.Repeat([]impl.Rule{{Source: 255, Apid: 2047, Service: 255, Sub: 255, Plain: true, Safe: true}}, 12),
		Limit:   9999,
	}
}

// leastConf is a craft that is right, with as little as there may be.
func leastConf() impl.Conf {
	return impl.Conf{Progs: [][]impl.Op{{{Do: impl.OpRest}}}, Apids: []int{1}, Budgets: []int{1}, Plain: []int{-1}, Safe: []int{-1}, Down: []int{0}}
}

// confFaults are changes of plainConf, by the number of what is wrong then.
func confFaults() [][]func(*impl.Conf) {
	prog := []impl.Op{{Do: impl.OpRest}}
	list := [][]func(*impl.Conf){
		{},
		{func(c *impl.Conf) { c.Craft = -1 }, func(c *impl.Conf) { c.Craft = 1024 }, func(c *impl.Conf) { c.Via = -1 }, func(c *impl.Conf) { c.Via = 64 }},
		{func(c *impl.Conf) { c.Progs = nil }, func(c *impl.Conf) { c.Progs = [][]impl.Op{} }, func(c *impl.Conf) { c.Progs = [][]impl.Op{prog, prog, prog, prog} },
			func(c *impl.Conf) { c.Progs[0] = nil }, func(c *impl.Conf) { c.Progs[1] = []impl.Op{{}} }, func(c *impl.Conf) { c.Progs[1] = slices.Repeat(prog, 17) }},
		{func(c *impl.Conf) { c.Apids = nil }, func(c *impl.Conf) { c.Apids = []int{7} }, func(c *impl.Conf) { c.Apids = []int{7, 8, 9} }, func(c *impl.Conf) { c.Apids[0] = 0 },
			func(c *impl.Conf) { c.Apids[1] = 2047 }, func(c *impl.Conf) { c.Apids[1] = -1 }, func(c *impl.Conf) { c.Apids[1] = 7 }, func(c *impl.Conf) { c.Apids[0] = 8 }},
		{func(c *impl.Conf) { c.Budgets = nil }, func(c *impl.Conf) { c.Budgets = []int{9} }, func(c *impl.Conf) { c.Budgets = []int{9, 10, 11} }, func(c *impl.Conf) { c.Budgets[0] = 0 },
			func(c *impl.Conf) { c.Budgets[1] = 41 }, func(c *impl.Conf) { c.Budgets[1] = -1 }},
		{func(c *impl.Conf) { c.Plain, c.Safe = nil, nil }, func(c *impl.Conf) { c.Plain, c.Safe = make([]int, 9), make([]int, 9) }, func(c *impl.Conf) { c.Plain = []int{0, 1} }, func(c *impl.Conf) { c.Safe = []int{0, 1} },
			func(c *impl.Conf) { c.Plain = nil }, func(c *impl.Conf) { c.Safe = nil }, func(c *impl.Conf) { c.Plain[0] = 2 }, func(c *impl.Conf) { c.Safe[0] = 2 },
			func(c *impl.Conf) { c.Plain[2] = -2 }, func(c *impl.Conf) { c.Safe[2] = -2 }, func(c *impl.Conf) { c.Safe = make([]int, 9) }},
		{func(c *impl.Conf) { c.Down = nil }, func(c *impl.Conf) { c.Down = make([]int, 9) }, func(c *impl.Conf) { c.Down[0] = 3 }, func(c *impl.Conf) { c.Down[3] = -1 }},
		{func(c *impl.Conf) { c.Rules = make([]impl.Rule, 13) }, func(c *impl.Conf) { c.Rules[0].Source = 256 }, func(c *impl.Conf) { c.Rules[0].Apid = 2048 }, func(c *impl.Conf) { c.Rules[0].Sub = -1 }},
		{func(c *impl.Conf) { c.Limit = -1 }, func(c *impl.Conf) { c.Limit = 10000 }},
	}
	for _, n := range farNumbers() {
		list[1] = append(list[1], func(c *impl.Conf) { c.Craft = n }, func(c *impl.Conf) { c.Via = n })
		list[2] = append(list[2], func(c *impl.Conf) { c.Progs[0][0].B = n })
		list[3] = append(list[3], func(c *impl.Conf) { c.Apids[1] = n })
		list[4] = append(list[4], func(c *impl.Conf) { c.Budgets[0] = n })
		list[5] = append(list[5], func(c *impl.Conf) { c.Plain[1] = n }, func(c *impl.Conf) { c.Safe[2] = n })
		list[6] = append(list[6], func(c *impl.Conf) { c.Down[1] = n })
		list[7] = append(list[7], func(c *impl.Conf) { c.Rules[0].Service = n })
		list[8] = append(list[8], func(c *impl.Conf) { c.Limit = n })
	}
	return list
}

// rightConfs are crafts that are right.
func rightConfs() []impl.Conf {
	dice := newDice(111)
	list := []impl.Conf{plainConf(), fullConf(), leastConf()}
	for range 300 {
		list = append(list, someConf(dice))
	}
	return list
}

func TestP43RightCrafts(t *testing.T) {
	for _, c := range rightConfs() {
		want(t, impl.ConfCheck(c) == 0, "ConfCheck(%v) is %d", c, impl.ConfCheck(c))
	}
}

func TestP43EachFaultAlone(t *testing.T) {
	for number, faults := range confFaults() {
		for i, f := range faults {
			c := plainConf()
			f(&c)
			want(t, impl.ConfCheck(c) == number, "with the fault %d of %d ConfCheck(%v) is %d", i, number, c, impl.ConfCheck(c))
		}
	}
}

func TestP43TheFirstOfTwoFaults(t *testing.T) {
	faults := confFaults()
	for first := 1; first <= 8; first++ {
		for second := first + 1; second <= 8; second++ {
			for _, f := range faults[first][:2] {
				// A later fault comes first here, as it changes what it finds, and an earlier one may take that away.
				for _, g := range faults[second][:2] {
					c := plainConf()
					g(&c)
					f(&c)
					want(t, impl.ConfCheck(c) == first, "with %d and %d ConfCheck(%v) is %d", first, second, c, impl.ConfCheck(c))
				}
			}
		}
	}
	want(t, impl.ConfCheck(impl.Conf{}) == 2 && impl.ConfCheck(impl.Conf{Craft: -1}) == 1, "nothing has %d, with the craft -1 %d", impl.ConfCheck(impl.Conf{}), impl.ConfCheck(impl.Conf{Craft: -1}))
}

func TestP43AsManyAsPrograms(t *testing.T) {
	for progs := range 5 {
		for others := range 5 {
			c := plainConf()
			c.Progs = slices.Repeat([][]impl.Op{{{Do: impl.OpRest}}}, progs)
			c.Plain, c.Safe, c.Down = []int{-1}, []int{-1}, []int{0}
			c.Apids, c.Budgets = []int{1, 2, 3, 4}[:others], []int{1, 2, 3, 4}[:progs]
			asked := 0
			if progs < 1 || progs > 3 {
				asked = 2
			} else if progs != others {
				asked = 3
			}
			want(t, impl.ConfCheck(c) == asked, "with %d programs and %d numbers: %d", progs, others, impl.ConfCheck(c))
			if asked == 3 {
				c.Apids, c.Budgets, asked = c.Budgets, c.Apids, 4
				want(t, impl.ConfCheck(c) == asked, "with %d programs and %d budgets: %d", progs, others, impl.ConfCheck(c))
			}
		}
	}
}

func TestP43PlacesOfPrograms(t *testing.T) {
	for progs := 1; progs <= 3; progs++ {
		for n := -3; n < 7; n++ {
			c := leastConf()
			c.Progs = slices.Repeat(c.Progs, progs)
			c.Apids, c.Budgets = []int{1, 2, 3}[:progs], []int{1, 2, 3}[:progs]
			for at := range 2 {
				c.Plain, c.Safe, c.Down = []int{0, 0}, []int{0, 0}, []int{0, 0}
				c.Plain[at] = n
				want(t, (impl.ConfCheck(c) == 0) == (n >= -1 && n < progs), "with %d programs, %d in Plain: %d", progs, n, impl.ConfCheck(c))
				c.Plain[at], c.Safe[at] = 0, n
				want(t, (impl.ConfCheck(c) == 0) == (n >= -1 && n < progs), "with %d programs, %d in Safe: %d", progs, n, impl.ConfCheck(c))
				c.Safe[at], c.Down[at] = 0, n
				want(t, (impl.ConfCheck(c) == 0) == (n >= 0 && n <= progs), "with %d programs, %d in Down: %d", progs, n, impl.ConfCheck(c))
			}
		}
	}
}

func TestP44TurnsByTheRowOfTheMode(t *testing.T) {
	for _, c := range rightConfs() {
		for turn := range c.Plain {
			want(t, impl.ConfTurn(c, impl.ModePlain, turn) == c.Plain[turn], "ConfTurn(%v, plain, %d) is %d", c, turn, impl.ConfTurn(c, impl.ModePlain, turn))
			want(t, impl.ConfTurn(c, impl.ModeSafe, turn) == c.Safe[turn], "ConfTurn(%v, safe, %d) is %d", c, turn, impl.ConfTurn(c, impl.ModeSafe, turn))
			for _, mode := range append(farNumbers(), -2, -1, 2, 3) {
				want(t, impl.ConfTurn(c, mode, turn) == -1, "ConfTurn(%v, %d, %d) is %d", c, mode, turn, impl.ConfTurn(c, mode, turn))
			}
		}
		for _, turn := range append(farNumbers(), -2, -1, len(c.Plain), len(c.Plain)+1, 8, 9) {
			for mode := range 2 {
				want(t, impl.ConfTurn(c, mode, turn) == -1, "ConfTurn(%v, %d, %d) is %d", c, mode, turn, impl.ConfTurn(c, mode, turn))
			}
		}
	}
}

func TestP45EachNumberHasItsProgram(t *testing.T) {
	for _, c := range rightConfs() {
		for apid := -3; apid < 2052; apid++ {
			asked := slices.Index(c.Apids, apid)
			want(t, impl.ConfPart(c, apid) == asked, "ConfPart(%v, %d) is %d", c.Apids, apid, impl.ConfPart(c, apid))
		}
		for place, apid := range c.Apids {
			want(t, impl.ConfPart(c, apid) == place, "ConfPart(%v, %d) is %d", c.Apids, apid, impl.ConfPart(c, apid))
		}
		for _, apid := range append(farNumbers(), 0) {
			want(t, impl.ConfPart(c, apid) == -1, "ConfPart(%v, %d) is %d", c.Apids, apid, impl.ConfPart(c, apid))
		}
	}
}

func TestP44To45CraftsThatAreNotRight(t *testing.T) {
	for _, faults := range confFaults() {
		for _, f := range faults {
			c := plainConf()
			f(&c)
			for turn := range 3 {
				want(t, impl.ConfTurn(c, 0, turn) == -1 && impl.ConfTurn(c, 1, turn) == -1, "ConfTurn(%v, .., %d) is %d, %d", c, turn, impl.ConfTurn(c, 0, turn), impl.ConfTurn(c, 1, turn))
			}
			want(t, impl.ConfPart(c, 7) == -1 && impl.ConfPart(c, 8) == -1, "ConfPart(%v, ..) is %d, %d", c, impl.ConfPart(c, 7), impl.ConfPart(c, 8))
		}
	}
}

// roomyConf is a craft of which each list has room behind, in which a mark stands.
func roomyConf(c impl.Conf) impl.Conf {
	c.Progs = roomy(c.Progs, []impl.Op{{Do: 77}})[:len(c.Progs)]
	for i, prog := range c.Progs {
		c.Progs[i] = roomy(prog, impl.Op{Do: 77})[:len(prog)]
	}
	for _, list := range []*[]int{&c.Apids, &c.Budgets, &c.Plain, &c.Safe, &c.Down} {
		*list = roomy(*list, 77)[:len(*list)]
	}
	c.Rules = roomy(c.Rules, impl.Rule{Source: 77})[:len(c.Rules)]
	return c
}

// roomOf is a copy of a craft with all the room behind its lists.
func roomOf(c impl.Conf) []any {
	all := []any{c.Craft, c.Via, c.Limit, slices.Clone(c.Rules[:cap(c.Rules)])}
	for _, prog := range c.Progs[:cap(c.Progs)] {
		all = append(all, slices.Clone(prog[:cap(prog)]))
	}
	for _, list := range [][]int{c.Apids, c.Budgets, c.Plain, c.Safe, c.Down} {
		all = append(all, slices.Clone(list[:cap(list)]))
	}
	return all
}

func TestP43To45NothingIsChanged(t *testing.T) {
	list := rightConfs()
	for _, faults := range confFaults() {
		for _, f := range faults {
			c := plainConf()
			f(&c)
			list = append(list, c)
		}
	}
	for _, c := range list {
		c = roomyConf(c)
		was := roomOf(c)
		impl.ConfCheck(c)
		for mode := range 3 {
			impl.ConfTurn(c, mode, 0)
		}
		impl.ConfPart(c, 7)
		want(t, reflect.DeepEqual(roomOf(c), was), "a call changed %v into %v", was, roomOf(c))
	}
}
