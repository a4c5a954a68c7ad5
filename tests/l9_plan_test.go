package tests

import (
	"math/rand"
	"slices"
	"strconv"
	"strings"
	"testing"

	"loop.example/skyway/impl"
)

// planAt is a plan that is On, with commands at times; their texts are their places.
func planAt(times ...int) impl.Plan {
	p := impl.Plan{On: true}
	for i, time := range times {
		p.Items = append(p.Items, impl.Item{Time: time, Text: "item " + strconv.Itoa(i)})
	}
	return p
}

// samePlan says whether two plans are the same.
func samePlan(a impl.Plan, b impl.Plan) bool {
	return a.On == b.On && slices.Equal(a.Items, b.Items)
}

// okPlans are plans that are ok, on and off, with many items of one time.
func okPlans() []impl.Plan {
	dice := newDice(91)
	list := []impl.Plan{
		{}, planAt(), planAt(0), planAt(99999), planAt(5), planAt(0, 99999), planAt(5, 5),
		planAt(5, 5, 5, 5, 5, 5), planAt(0, 0, 0, 99999, 99999, 99999), planAt(1, 2, 3, 4, 5, 6), planAt(3, 5, 5, 5, 7),
		{Items: []impl.Item{{Time: 5, Text: strings.Repeat("\xff", 60)}, {Time: 5, Text: "\x00"}}},
	}
	for range 60 {
		list = append(list, somePlan(dice))
	}
	for _, p := range slices.Clone(list) {
		p.On = !p.On
		list = append(list, p)
	}
	return list
}

// somePlan is a plan that is ok, at times up to 12.
func somePlan(dice *rand.Rand) impl.Plan {
	var times []int
	for range dice.Intn(7) {
		times = append(times, dice.Intn(13))
	}
	slices.Sort(times)
	return planAt(times...)
}

// badPlans are plans that are not ok, each by one thing.
func badPlans() []impl.Plan {
	list := []impl.Plan{
		planAt(1, 2, 3, 4, 5, 6, 7), planAt(5, 4), planAt(5, 5, 4), planAt(1, 9, 3, 9), planAt(-1), planAt(-1, 0), planAt(100000), planAt(0, 100000),
		{Items: []impl.Item{{}}}, {Items: []impl.Item{{Time: 5, Text: strings.Repeat("d", 61)}}},
		{On: true, Items: []impl.Item{{Time: 5, Text: "d"}, {Time: 6}}},
		{On: true, Items: []impl.Item{{Time: 5, Text: "d"}, {Time: 6, Text: strings.Repeat("d", 1000)}, {Time: 7, Text: "d"}}},
		planAt(make([]int, 1000)...),
	}
	for _, n := range farNumbers() {
		list = append(list, planAt(n), planAt(5, n))
	}
	return list
}

// plainPut is a plan with one more, and the code, as the document says it.
func plainPut(p impl.Plan, now int, time int, text string) (impl.Plan, int) {
	if now < 0 || now > 99999 || time < 0 || time > 99999 || len(text) < 1 || len(text) > 60 {
		return p, 3
	}
	if time <= now {
		return p, 1
	}
	if len(p.Items) >= 6 {
		return p, 2
	}
	p.Items = append(slices.Clone(p.Items), impl.Item{Time: time, Text: text})
	slices.SortStableFunc(p.Items, func(a impl.Item, b impl.Item) int { return a.Time - b.Time })
	return p, 0
}

// plainShift is a plan shifted, and the code, as the document says it.
func plainShift(p impl.Plan, now int, by int) (impl.Plan, int) {
	if now < 0 || now > 99999 || by < -99999 || by > 99999 {
		return p, 3
	}
	q := impl.Plan{On: p.On}
	for _, item := range p.Items {
		item.Time += by
		if item.Time <= now || item.Time > 99999 {
			return p, 1
		}
		q.Items = append(q.Items, item)
	}
	return q, 0
}

// plainDue is a plan without what is due, and the texts of that, as the document says it.
func plainDue(p impl.Plan, now int) (impl.Plan, []string) {
	q := impl.Plan{On: p.On}
	var texts []string
	for _, item := range p.Items {
		if item.Time > now {
			q.Items = append(q.Items, item)
		} else if p.On {
			texts = append(texts, item.Text)
		}
	}
	return q, texts
}

// someTimes are times at and about the edges, and numbers that are none.
func someTimes() []int {
	return append(farNumbers(), -99999, -2, -1, 0, 1, 2, 3, 4, 5, 6, 7, 8, 12, 13, 50000, 99997, 99998, 99999, 100000, 100001)
}

// putText is what the tests let wait.
const putText = "put"

func TestP33PlansThatAreOk(t *testing.T) {
	for _, p := range okPlans() {
		want(t, impl.PlanOk(p), "%v is not ok", p)
	}
	for _, p := range badPlans() {
		want(t, !impl.PlanOk(p), "%v is ok", p)
	}
}

func TestP33PutJustAsAsked(t *testing.T) {
	texts := []string{putText, "", "\x00", strings.Repeat("d", 60), strings.Repeat("d", 61), strings.Repeat("d", 5000)}
	seen := map[int]int{}
	for n, p := range okPlans() {
		for _, now := range someTimes() {
			for i, time := range someTimes() {
				text := texts[(n+i)%len(texts)]
				q, code := impl.PlanPut(p, now, time, text)
				expected, asked := plainPut(p, now, time, text)
				want(t, code == asked && samePlan(q, expected), "PlanPut(%v, %d, %d, %q) is %v, %d", p, now, time, text, q, code)
				want(t, impl.PlanOk(q), "%v is not ok", q)
				seen[code]++
			}
		}
	}
	want(t, len(seen) == 4, "only some codes were seen: %v", seen)
}

func TestP33NotDueAheadOfItsTime(t *testing.T) {
	for _, p := range okPlans() {
		if len(p.Items) == 6 {
			continue
		}
		p.On = true
		for _, time := range []int{1, 2, 4, 5, 6, 12, 99998, 99999} {
			q, code := impl.PlanPut(p, 0, time, putText)
			want(t, code == impl.PlanDone, "PlanPut(%v, 0, %d) has the code %d", p, time, code)
			_, early := impl.PlanDue(q, time-1)
			want(t, !slices.Contains(early, putText), "%q is due a tick ahead", early)
			_, due := impl.PlanDue(q, time)
			want(t, len(due) > 0 && due[len(due)-1] == putText, "due are %q", due)
		}
	}
}

func TestP33CodesInTheirOrder(t *testing.T) {
	full := planAt(1, 2, 3, 4, 5, 6)
	for _, c := range []struct {
		p              impl.Plan
		now, time, put int
		text           string
	}{
		{full, 9, 100000, impl.PlanBad, "x"}, {full, -1, 9, impl.PlanBad, "x"}, {full, 9, 9, impl.PlanBad, ""},
		{full, 9, 9, impl.PlanPast, "x"}, {full, 9, 8, impl.PlanPast, "x"}, {full, 99999, 99999, impl.PlanPast, "x"},
		{full, 9, 10, impl.PlanFull, "x"}, {planAt(1, 2, 3, 4, 5), 9, 10, impl.PlanDone, "x"},
		{planAt(), 99998, 99999, impl.PlanDone, "x"}, {planAt(), 0, 0, impl.PlanPast, "x"}, {planAt(), 0, 1, impl.PlanDone, "x"},
		{planAt(), 0, -1, impl.PlanBad, "x"}, {planAt(), 99999, 100000, impl.PlanBad, "x"}, {planAt(), 100000, 5, impl.PlanBad, "x"},
	} {
		_, code := impl.PlanPut(c.p, c.now, c.time, c.text)
		want(t, code == c.put, "PlanPut(%v, %d, %d, %q) has the code %d", c.p, c.now, c.time, c.text, code)
	}
}

func TestP33BehindAllOfItsTime(t *testing.T) {
	q, _ := impl.PlanPut(planAt(3, 5, 5, 5, 7), 0, 5, putText)
	var texts []string
	for _, item := range q.Items {
		texts = append(texts, item.Text)
	}
	want(t, sameTexts(texts, []string{"item 0", "item 1", "item 2", "item 3", putText, "item 4"}), "the order is %q", texts)
	var p impl.Plan
	for n := range 6 {
		p, _ = impl.PlanPut(p, 4, 5, strconv.Itoa(n))
	}
	p.On = true
	_, due := impl.PlanDue(p, 5)
	want(t, sameTexts(due, []string{"0", "1", "2", "3", "4", "5"}), "commands of one time are due as %q", due)
}

func TestP34DueInOrder(t *testing.T) {
	for _, p := range okPlans() {
		for _, now := range someTimes() {
			q, texts := impl.PlanDue(p, now)
			expected, asked := plainDue(p, now)
			want(t, samePlan(q, expected) && sameTexts(texts, asked), "PlanDue(%v, %d) is %v, %q", p, now, q, texts)
			again, none := impl.PlanDue(q, now)
			want(t, samePlan(again, q) && len(none) == 0, "PlanDue(%v, %d) again is %v, %q", p, now, again, none)
			want(t, impl.PlanOk(q), "%v is not ok", q)
		}
	}
}

func TestP34OffItGoesUntold(t *testing.T) {
	p := planAt(3, 5, 5, 9)
	p.On = false
	q, texts := impl.PlanDue(p, 5)
	want(t, len(texts) == 0 && !q.On && slices.Equal(q.Items, p.Items[3:]), "PlanDue is %v, %q", q, texts)
	p.On = true
	q, texts = impl.PlanDue(p, 5)
	want(t, sameTexts(texts, []string{"item 0", "item 1", "item 2"}) && q.On && slices.Equal(q.Items, p.Items[3:]), "PlanDue is %v, %q", q, texts)
	q, texts = impl.PlanDue(p, 4)
	want(t, sameTexts(texts, []string{"item 0"}) && slices.Equal(q.Items, p.Items[1:]), "PlanDue is %v, %q", q, texts)
}

func TestP34PutAndDueByTurns(t *testing.T) {
	dice := newDice(92)
	for range 300 {
		is, asked := impl.Plan{On: true}, impl.Plan{On: true}
		for now := range 40 {
			for n := range dice.Intn(3) {
				time, text := now+dice.Intn(9), strconv.Itoa(now)+"."+strconv.Itoa(n)
				is, _ = impl.PlanPut(is, now, time, text)
				asked, _ = plainPut(asked, now, time, text)
			}
			var texts, expected []string
			is, texts = impl.PlanDue(is, now)
			asked, expected = plainDue(asked, now)
			want(t, samePlan(is, asked) && sameTexts(texts, expected), "at %d %v is due: %q", now, is, texts)
		}
	}
}

func TestP35ShiftedAndBack(t *testing.T) {
	seen := map[int]int{}
	for _, p := range okPlans() {
		for _, now := range someTimes() {
			for _, by := range append(someTimes(), -3, -4, -5, -99998, -100000, -100001) {
				q, code := impl.PlanShift(p, now, by)
				expected, asked := plainShift(p, now, by)
				want(t, code == asked && samePlan(q, expected), "PlanShift(%v, %d, %d) is %v, %d", p, now, by, q, code)
				want(t, impl.PlanOk(q), "%v is not ok", q)
				seen[code]++
				if code == impl.PlanDone && len(p.Items) > 0 && p.Items[0].Time > 0 {
					back, code := impl.PlanShift(q, 0, -by)
					want(t, code == impl.PlanDone && samePlan(back, p), "shifted back %v is %v, %d", p, back, code)
				}
			}
		}
	}
	want(t, len(seen) == 3, "only some codes were seen: %v", seen)
}

func TestP35EdgesOfShifts(t *testing.T) {
	for _, c := range []struct {
		p        impl.Plan
		now, by  int
		code, to int
	}{
		{planAt(0), 0, 99999, impl.PlanDone, 99999}, {planAt(1), 0, 99999, impl.PlanPast, 1}, {planAt(99999), 0, -99998, impl.PlanDone, 1},
		{planAt(99999), 0, -99999, impl.PlanPast, 99999}, {planAt(99999), 0, 1, impl.PlanPast, 99999}, {planAt(99998), 0, 1, impl.PlanDone, 99999},
		{planAt(5), 5, 0, impl.PlanPast, 5}, {planAt(5), 4, 0, impl.PlanDone, 5}, {planAt(5), 5, 1, impl.PlanDone, 6}, {planAt(5), 6, 1, impl.PlanPast, 5},
		{planAt(5), 0, 100000, impl.PlanBad, 5}, {planAt(5), 0, -100000, impl.PlanBad, 5}, {planAt(5), -1, 1, impl.PlanBad, 5}, {planAt(5), 100000, 1, impl.PlanBad, 5},
		{planAt(5, 99999), 0, 1, impl.PlanPast, 5}, {planAt(5, 9), 7, -1, impl.PlanPast, 5},
	} {
		q, code := impl.PlanShift(c.p, c.now, c.by)
		want(t, code == c.code && q.Items[0].Time == c.to, "PlanShift(%v, %d, %d) is %v, %d", c.p, c.now, c.by, q, code)
	}
	for _, by := range []int{-99999, 0, 99999} {
		q, code := impl.PlanShift(planAt(), 99999, by)
		want(t, code == impl.PlanDone && samePlan(q, planAt()), "an empty plan shifted by %d is %v, %d", by, q, code)
	}
}

func TestP36ForgottenAreThoseOfTheTimes(t *testing.T) {
	for _, p := range okPlans() {
		for _, from := range someTimes() {
			for _, to := range someTimes() {
				expected := impl.Plan{On: p.On}
				for _, item := range p.Items {
					if !(from <= item.Time && item.Time <= to) {
						expected.Items = append(expected.Items, item)
					}
				}
				q := impl.PlanDrop(p, from, to)
				want(t, samePlan(q, expected), "PlanDrop(%v, %d, %d) is %v", p, from, to, q)
			}
		}
	}
}

func TestP33To36PlansThatAreNotOk(t *testing.T) {
	for _, p := range badPlans() {
		q, code := impl.PlanPut(p, 0, 5, putText)
		want(t, samePlan(q, impl.Plan{}) && code == impl.PlanBad, "PlanPut(%v) is %v, %d", p, q, code)
		q, code = impl.PlanPut(p, 5, 5, putText)
		want(t, samePlan(q, impl.Plan{}) && code == impl.PlanBad, "PlanPut(%v) is %v, %d", p, q, code)
		q, code = impl.PlanShift(p, 0, 1)
		want(t, samePlan(q, impl.Plan{}) && code == impl.PlanBad, "PlanShift(%v) is %v, %d", p, q, code)
		q, texts := impl.PlanDue(p, 99999)
		want(t, samePlan(q, impl.Plan{}) && len(texts) == 0, "PlanDue(%v) is %v, %q", p, q, texts)
		q = impl.PlanDrop(p, 0, 99999)
		want(t, samePlan(q, impl.Plan{}), "PlanDrop(%v) is %v", p, q)
		q = impl.PlanDrop(p, 50, 40)
		want(t, samePlan(q, impl.Plan{}), "PlanDrop(%v) is %v", p, q)
	}
}

// planCalls are all calls that answer with a plan, with and without a code.
func planCalls() []func(impl.Plan) impl.Plan {
	return []func(impl.Plan) impl.Plan{
		func(p impl.Plan) impl.Plan { q, _ := impl.PlanPut(p, 0, 5, putText); return q },
		func(p impl.Plan) impl.Plan { q, _ := impl.PlanPut(p, 0, 99999, putText); return q },
		func(p impl.Plan) impl.Plan { q, _ := impl.PlanPut(p, 5, 5, putText); return q },
		func(p impl.Plan) impl.Plan { q, _ := impl.PlanPut(p, 0, -1, putText); return q },
		func(p impl.Plan) impl.Plan { return impl.PlanDrop(p, 4, 6) },
		func(p impl.Plan) impl.Plan { return impl.PlanDrop(p, 6, 4) },
		func(p impl.Plan) impl.Plan { return impl.PlanDrop(p, 0, 99999) },
		func(p impl.Plan) impl.Plan { q, _ := impl.PlanShift(p, 0, 3); return q },
		func(p impl.Plan) impl.Plan { q, _ := impl.PlanShift(p, 0, 0); return q },
		func(p impl.Plan) impl.Plan { q, _ := impl.PlanShift(p, 99999, 1); return q },
		func(p impl.Plan) impl.Plan { q, _ := impl.PlanShift(p, -1, 1); return q },
		func(p impl.Plan) impl.Plan { q, _ := impl.PlanDue(p, 5); return q },
		func(p impl.Plan) impl.Plan { q, _ := impl.PlanDue(p, -1); return q },
		func(p impl.Plan) impl.Plan { q, _ := impl.PlanDue(p, 99999); return q },
		func(p impl.Plan) impl.Plan { impl.PlanOk(p); return impl.Plan{} },
	}
}

func TestPlansShareNoMemory(t *testing.T) {
	mark := impl.Item{Time: 77, Text: "mark"}
	for _, p := range append(okPlans(), badPlans()...) {
		for _, call := range planCalls() {
			sharesNothing(t, p.Items, mark, func(items []impl.Item) []impl.Item {
				return call(impl.Plan{On: p.On, Items: items}).Items
			})
		}
	}
}

func TestTextsThatAreDueShareNoMemory(t *testing.T) {
	p := planAt(1, 2, 3)
	_, texts := impl.PlanDue(p, 9)
	room := texts[:cap(texts)]
	for i := range room {
		room[i] = "written"
	}
	want(t, samePlan(p, planAt(1, 2, 3)), "writing into the texts made the plan %v", p)
	_, texts = impl.PlanDue(p, 9)
	want(t, sameTexts(texts, []string{"item 0", "item 1", "item 2"}), "due are %q", texts)
}
