package tests

import (
	"math/rand"
	"slices"
	"testing"

	"loop.example/skyway/impl"
)

// plainLet says whether a rule of a list lets a command in a mode, as the document says it.
func plainLet(list []impl.Rule, mode int, c impl.Cmd) bool {
	for _, r := range list {
		if r.Source == c.Source && r.Apid == c.Apid && r.Service == c.Service && r.Sub == c.Sub && (mode == 0 && r.Plain || mode == 1 && r.Safe) {
			return true
		}
	}
	return false
}

// plainLess is rules put together, as the document says it.
func plainLess(list []impl.Rule) []impl.Rule {
	var less []impl.Rule
	for _, r := range list {
		if !r.Plain && !r.Safe {
			continue
		}
		at := slices.IndexFunc(less, func(x impl.Rule) bool { return ofOneCmd(x, r) })
		if at < 0 {
			less = append(less, r)
			continue
		}
		less[at].Plain = less[at].Plain || r.Plain
		less[at].Safe = less[at].Safe || r.Safe
	}
	return less
}

// ofOneCmd says whether two rules are of the same command.
func ofOneCmd(a impl.Rule, b impl.Rule) bool {
	return a.Source == b.Source && a.Apid == b.Apid && a.Service == b.Service && a.Sub == b.Sub
}

// someRules are rules that are ok, of which many are of one command.
func someRules(dice *rand.Rand, count int) []impl.Rule {
	var list []impl.Rule
	for range count {
		list = append(list, impl.Rule{
			Source:  dice.Intn(2) * 255,
			Apid:    dice.Intn(2) * 2047,
			Service: 8 + dice.Intn(2),
			Sub:     dice.Intn(2),
			Plain:   dice.Intn(2) == 0,
			Safe:    dice.Intn(3) == 0,
		})
	}
	return list
}

// askedOfRules are commands of rules, and such that differ from them by one thing.
func askedOfRules(list []impl.Rule) []impl.Cmd {
	var cmds []impl.Cmd
	for _, r := range list {
		c := impl.Cmd{Source: r.Source, Apid: r.Apid, Service: r.Service, Sub: r.Sub}
		cmds = append(cmds, c)
		for n := range 6 {
			d := c
			switch n {
			case 0:
				d.Source++
			case 1:
				d.Apid--
			case 2:
				d.Service++
			case 3:
				d.Sub++
			case 4:
				d.Count, d.Data = 99, "data"
			case 5:
				d.Source, d.Sub = d.Sub, d.Source
			}
			cmds = append(cmds, d)
		}
	}
	return cmds
}

// badRules are rules that are not ok, each by one thing, and too many.
func badRules() [][]impl.Rule {
	list := [][]impl.Rule{make([]impl.Rule, 13), make([]impl.Rule, 1000)}
	one := impl.Rule{Plain: true, Safe: true}
	for _, n := range append(farNumbers(), -1, 256, 2048) {
		source, apid, service, sub := one, one, one, one
		source.Source, apid.Apid, service.Service, sub.Sub = n, n, n, n
		if n != 256 {
			list = append(list, []impl.Rule{apid}, []impl.Rule{one, one, apid})
		}
		list = append(list, []impl.Rule{source}, []impl.Rule{service}, []impl.Rule{sub}, []impl.Rule{one, source, one}, []impl.Rule{one, service}, []impl.Rule{sub, one})
	}
	return list
}

func TestP31WhoMayIsSaidBySomeRule(t *testing.T) {
	dice := newDice(81)
	let := 0
	for range 600 {
		list := someRules(dice, dice.Intn(13))
		want(t, impl.RulesOk(list), "%v are not ok", list)
		for _, c := range askedOfRules(list) {
			for _, mode := range []int{impl.ModePlain, impl.ModeSafe} {
				is := impl.RulesLet(list, mode, c)
				want(t, is == plainLet(list, mode, c), "RulesLet(%v, %d, %v) is %t", list, mode, c, is)
				if is {
					let++
				}
			}
		}
	}
	want(t, let > 100, "only %d were let", let)
}

func TestP31OneMoreRuleForbidsNothing(t *testing.T) {
	dice := newDice(82)
	for range 300 {
		list := someRules(dice, dice.Intn(12))
		for _, more := range append(someRules(dice, 3), impl.Rule{}) {
			for _, at := range []int{0, len(list) / 2, len(list)} {
				longer := slices.Insert(slices.Clone(list), at, more)
				for _, c := range askedOfRules(list) {
					for mode := range 2 {
						want(t, !impl.RulesLet(list, mode, c) || impl.RulesLet(longer, mode, c), "%v forbids %v in mode %d", more, c, mode)
					}
				}
			}
		}
	}
}

func TestP31ModesByThemselves(t *testing.T) {
	c := impl.Cmd{Source: 1, Apid: 2, Service: 3, Sub: 4, Count: 9, Data: "any"}
	for _, r := range []impl.Rule{{}, {Plain: true}, {Safe: true}, {Plain: true, Safe: true}} {
		r.Source, r.Apid, r.Service, r.Sub = 1, 2, 3, 4
		list := []impl.Rule{r}
		want(t, impl.RulesLet(list, 0, c) == r.Plain && impl.RulesLet(list, 1, c) == r.Safe, "%v lets %t, %t", r, impl.RulesLet(list, 0, c), impl.RulesLet(list, 1, c))
		for _, mode := range append(farNumbers(), -1, 2, 3, 256) {
			want(t, !impl.RulesLet(list, mode, c), "%v lets in the mode %d", r, mode)
		}
	}
	want(t, !impl.RulesLet(nil, 0, c) && !impl.RulesLet(nil, 1, c), "without rules something is let")
	want(t, !impl.RulesLet(nil, 0, impl.Cmd{}) && !impl.RulesLet([]impl.Rule{{}}, 0, impl.Cmd{}), "a rule that lets nothing lets")
}

func TestP31RulesAtTheirLimits(t *testing.T) {
	most := impl.Rule{Source: 255, Apid: 2047, Service: 255, Sub: 255, Plain: true}
	list := make([]impl.Rule, 12)
	list[11] = most
	want(t, impl.RulesOk(list) && impl.RulesOk(nil) && impl.RulesOk([]impl.Rule{}), "rules at their limits are not ok")
	c := impl.Cmd{Source: 255, Apid: 2047, Service: 255, Sub: 255}
	want(t, impl.RulesLet(list, 0, c) && !impl.RulesLet(list, 1, c), "the last of RuleMax rules does not let")
	list = append(list, most)
	want(t, !impl.RulesOk(list) && !impl.RulesLet(list, 0, c) && len(impl.RulesLess(list)) == 0, "one more than RuleMax is ok")
}

func TestP31RulesThatAreNotOk(t *testing.T) {
	for _, list := range badRules() {
		want(t, !impl.RulesOk(list), "%v are ok", list)
		for _, c := range append(askedOfRules(list[:1]), impl.Cmd{}) {
			for mode := range 2 {
				want(t, !impl.RulesLet(list, mode, c), "%v let %v", list, c)
			}
		}
		want(t, len(impl.RulesLess(list)) == 0, "RulesLess(%v) is %v", list, impl.RulesLess(list))
	}
}

func TestP32LessLetsJustTheSame(t *testing.T) {
	dice := newDice(83)
	for range 600 {
		list := someRules(dice, dice.Intn(13))
		less := impl.RulesLess(list)
		want(t, slices.Equal(less, plainLess(list)), "RulesLess(%v) is %v", list, less)
		for _, c := range askedOfRules(list) {
			for mode := -1; mode <= 2; mode++ {
				want(t, impl.RulesLet(less, mode, c) == impl.RulesLet(list, mode, c), "%v let %v in mode %d unlike %v", less, c, mode, list)
			}
		}
		for i, a := range less {
			want(t, a.Plain || a.Safe, "%v says nothing", a)
			for _, b := range less[:i] {
				want(t, !ofOneCmd(a, b), "%v are of one command", less)
			}
		}
		want(t, slices.Equal(impl.RulesLess(less), less), "RulesLess(%v) is %v", less, impl.RulesLess(less))
	}
}

func TestP32TheirOrderStays(t *testing.T) {
	a, b, c := impl.Rule{Source: 3}, impl.Rule{Source: 1}, impl.Rule{Source: 2}
	plain := func(r impl.Rule) impl.Rule { r.Plain = true; return r }
	safe := func(r impl.Rule) impl.Rule { r.Safe = true; return r }
	for _, x := range []struct{ list, less []impl.Rule }{
		{nil, nil},
		{[]impl.Rule{a, b, c}, nil},
		{[]impl.Rule{plain(a), plain(b), safe(c)}, []impl.Rule{plain(a), plain(b), safe(c)}},
		{[]impl.Rule{plain(a), plain(b), safe(a)}, []impl.Rule{plain(safe(a)), plain(b)}},
		{[]impl.Rule{safe(a), a, plain(b), plain(a), plain(a)}, []impl.Rule{plain(safe(a)), plain(b)}},
		{[]impl.Rule{a, plain(b), safe(a)}, []impl.Rule{plain(b), safe(a)}},
	} {
		want(t, slices.Equal(impl.RulesLess(x.list), x.less), "RulesLess(%v) is %v", x.list, impl.RulesLess(x.list))
	}
}

func TestP32EachOfRuleMaxStays(t *testing.T) {
	var list []impl.Rule
	for n := range 12 {
		list = append(list, impl.Rule{Source: 255 - n, Apid: n, Plain: true})
	}
	want(t, slices.Equal(impl.RulesLess(list), list), "RulesLess(%v) is %v", list, impl.RulesLess(list))
}

func TestRulesShareNoMemory(t *testing.T) {
	dice := newDice(84)
	mark := impl.Rule{Source: 77, Plain: true}
	lists := append(badRules(), nil, []impl.Rule{mark})
	for count := range 13 {
		lists = append(lists, someRules(dice, count))
	}
	for _, list := range lists {
		sharesNothing(t, list, mark, impl.RulesLess)
		sharesNothing(t, list, mark, func(rules []impl.Rule) []impl.Rule {
			impl.RulesOk(rules)
			impl.RulesLet(rules, 0, impl.Cmd{Source: 77})
			return nil
		})
	}
}
