package tests

import (
	"math"
	"slices"
	"testing"

	"loop.example/parquetry/impl"
)

// scenes: bodies that are ok, many of them touching.
func scenes() [][]impl.Body {
	list, r := goodLists(), fixed()
	for range 600 {
		spread := []int{200, 1000, 2500, 6000}[r.IntN(4)]
		list = append(list, anyBodies(r, r.IntN(impl.BodyMax+1), spread, 600))
	}
	return list
}

// mover: a round body that can move, awake.
func mover(id int, x int) impl.Body {
	return impl.Body{Id: id, Shape: round(50), At: vec(x, 0), Mass: 2}
}

// contactsByLooking: what Contacts must answer of what is ok, found by looking at all.
func contactsByLooking(list []impl.Body) []impl.Contact {
	var found []impl.Contact
	for i, a := range list {
		for j := i + 1; j < len(list); j++ {
			b := list[j]
			h, ok := impl.Touch(a.Shape, a.At, b.Shape, b.At)
			if ok && (a.Mass > 0 || b.Mass > 0) {
				found = append(found, impl.Contact{A: i, B: j, Hit: h})
			}
		}
	}
	return found
}

// holdOn: whether two bodies are of one group because they touch.
func holdOn(a impl.Body, b impl.Body) bool {
	_, ok := impl.Touch(a.Shape, a.At, b.Shape, b.At)
	return ok && a.Mass > 0 && b.Mass > 0
}

// groupsByGoing: what Groups must answer of what is ok, found by going from each body to all it comes to.
func groupsByGoing(list []impl.Body) []int {
	groups := make([]int, len(list))
	for i := range groups {
		groups[i] = -1
	}
	count := 0
	for i, b := range list {
		if b.Mass == 0 || groups[i] >= 0 {
			continue
		}
		groups[i] = count
		for open := []int{i}; len(open) > 0; open = open[1:] {
			for j := range list {
				if groups[j] < 0 && holdOn(list[open[0]], list[j]) {
					groups[j] = count
					open = append(open, j)
				}
			}
		}
		count++
	}
	return groups
}

func countOf(groups []int) int {
	count := 0
	for _, g := range groups {
		count = max(count, g+1)
	}
	return count
}

func TestP34AllThatTouchAreTold(t *testing.T) {
	told := 0
	for _, list := range scenes() {
		got := impl.Contacts(list)
		if !slices.Equal(got, contactsByLooking(list)) {
			t.Errorf("Contacts(%v) = %v", list, got)
		}
		told += len(got)
	}
	if told < 1000 {
		t.Errorf("only %d contacts in all", told)
	}
}

func TestP34ContactsByTheFirstAndThenTheSecond(t *testing.T) {
	floor := impl.Body{Id: 5, Shape: slab(300, 100), At: vec(0, -140)}
	wall := impl.Body{Id: 6, Shape: slab(20, 100), At: vec(-20, 0)}
	list := []impl.Body{mover(1, 0), mover(2, 80), floor, wall, asleep(mover(9, 160))}
	want := []impl.Contact{{A: 0, B: 1, Hit: hit(256, 0, 20)}, {A: 0, B: 2, Hit: hit(0, -256, 10)}, {A: 0, B: 3, Hit: hit(-256, 0, 50)}, {A: 1, B: 2, Hit: hit(0, -256, 10)}, {A: 1, B: 4, Hit: hit(256, 0, 20)}, {A: 2, B: 4, Hit: hit(0, 256, 10)}}
	if got := impl.Contacts(list); !slices.Equal(got, want) {
		t.Errorf("Contacts = %v, not %v", got, want)
	}
}

func TestP34SidesThatJustTouchAndTwoThatAreFixed(t *testing.T) {
	if got := impl.Contacts([]impl.Body{mover(1, 0), mover(2, 100)}); !slices.Equal(got, []impl.Contact{{A: 0, B: 1, Hit: hit(256, 0, 0)}}) {
		t.Errorf("just touching: %v", got)
	}
	if got := impl.Contacts([]impl.Body{mover(1, 0), mover(2, 101)}); len(got) != 0 {
		t.Errorf("1 apart: %v", got)
	}
	if got := impl.Contacts([]impl.Body{rigid(mover(1, 0)), rigid(mover(2, 10))}); len(got) != 0 {
		t.Errorf("both fixed: %v", got)
	}
	if got := impl.Contacts([]impl.Body{asleep(mover(1, 0)), asleep(mover(2, 10))}); len(got) != 1 {
		t.Errorf("both asleep: %v", got)
	}
	if got := impl.Contacts([]impl.Body{rigid(mover(1, 0)), mover(2, 10)}); !slices.Equal(got, []impl.Contact{{A: 0, B: 1, Hit: hit(256, 0, 90)}}) {
		t.Errorf("the first fixed: %v", got)
	}
	var all []impl.Body
	for i := range impl.BodyMax {
		all = append(all, mover(i, i))
	}
	if got := impl.Contacts(all); len(got) != 66 {
		t.Errorf("12 at one spot have %d contacts", len(got))
	}
}

func TestP35BodiesThatTouchAreOfOneGroup(t *testing.T) {
	for _, list := range scenes() {
		got := impl.Groups(list)
		if !slices.Equal(got, groupsByGoing(list)) {
			t.Fatalf("Groups(%v) = %v", list, got)
		}
		next := 0
		for i, a := range list {
			if (a.Mass == 0) != (got[i] == -1) || got[i] > next {
				t.Errorf("Groups(%v) = %v at %d", list, got, i)
			}
			if got[i] == next {
				next++
			}
			for j, b := range list[:i] {
				if holdOn(a, b) && got[i] != got[j] {
					t.Errorf("%d and %d of %v touch: %v", j, i, list, got)
				}
			}
		}
	}
}

func TestP35GroupsOfSomeBodies(t *testing.T) {
	for _, c := range []struct {
		list []impl.Body
		want []int
	}{
		{nil, nil},
		{[]impl.Body{rigid(mover(1, 0))}, []int{-1}},
		{[]impl.Body{mover(1, 0)}, []int{0}},
		// what is fixed between two that can move joins nothing
		{[]impl.Body{mover(1, 0), rigid(mover(2, 90)), mover(3, 180)}, []int{0, -1, 1}},
		{[]impl.Body{mover(1, 0), mover(2, 90), mover(3, 180)}, []int{0, 0, 0}},
		{[]impl.Body{mover(1, 0), asleep(mover(2, 90)), mover(3, 180)}, []int{0, 0, 0}},
		{[]impl.Body{rigid(mover(1, 0)), mover(2, 90), mover(3, -90), rigid(mover(4, 180))}, []int{-1, 0, 1, -1}},
		// both fixed, and touching
		{[]impl.Body{rigid(mover(1, 0)), rigid(mover(2, 10))}, []int{-1, -1}},
		// numbered by their first bodies, whatever joins them
		{[]impl.Body{mover(1, 0), mover(2, 1000), mover(3, 1200), mover(4, 80), mover(5, 1100)}, []int{0, 1, 1, 0, 1}},
		{[]impl.Body{mover(1, 5000), mover(2, 0), mover(3, 160), mover(4, 5080), mover(5, 80), mover(6, 240)}, []int{0, 1, 1, 0, 1, 1}},
		{[]impl.Body{mover(1, 0), mover(2, 300), mover(3, 600), mover(4, 900)}, []int{0, 1, 2, 3}},
		// joined from the last to the first
		{[]impl.Body{mover(1, 0), mover(2, 400), mover(3, 200), mover(4, 300), mover(5, 100)}, []int{0, 0, 0, 0, 0}},
		{balls(impl.BodyMax), make([]int, impl.BodyMax)},
	} {
		if got := impl.Groups(c.list); !slices.Equal(got, c.want) {
			t.Errorf("Groups(%v) = %v, not %v", c.list, got, c.want)
		}
	}
}

func TestP36NoGroupCouldBeTwo(t *testing.T) {
	for _, list := range scenes() {
		groups := impl.Groups(list)
		contacts := impl.Contacts(list)
		for i := range list {
			if groups[i] < 0 {
				continue
			}
			come := make([]bool, len(list))
			come[i] = true
			for range list {
				for _, k := range contacts {
					if list[k.A].Mass > 0 && list[k.B].Mass > 0 && (come[k.A] || come[k.B]) {
						come[k.A], come[k.B] = true, true
					}
				}
			}
			for j := range list {
				if come[j] != (groups[j] == groups[i]) {
					t.Errorf("Groups(%v) = %v: from %d to %d", list, groups, i, j)
				}
			}
		}
	}
}

func TestP37AGroupIsAwakeIfOneOfItIs(t *testing.T) {
	slept, woken := 0, 0
	for _, list := range scenes() {
		groups, got := groupsByGoing(list), impl.GroupAwake(list)
		want := make([]bool, countOf(groups))
		for i, g := range groups {
			if g >= 0 && !impl.BodySleeps(list[i]) {
				want[g] = true
			}
		}
		if !slices.Equal(got, want) {
			t.Errorf("GroupAwake(%v) = %v", list, got)
		}
		for _, awake := range got {
			if awake {
				woken++
			} else {
				slept++
			}
		}
	}
	if slept < 100 || woken < 100 {
		t.Errorf("%d slept, and %d were awake", slept, woken)
	}
}

func TestP37GroupsOfWhichSomeSleep(t *testing.T) {
	s := func(id int, x int) impl.Body { return asleep(mover(id, x)) }
	for _, c := range []struct {
		list []impl.Body
		want []bool
	}{
		{nil, nil},
		{[]impl.Body{rigid(mover(1, 0))}, nil},
		{[]impl.Body{mover(1, 0)}, []bool{true}},
		{[]impl.Body{s(1, 0)}, []bool{false}},
		{[]impl.Body{s(1, 0), s(2, 80), mover(3, 160)}, []bool{true}},
		{[]impl.Body{mover(1, 0), s(2, 80), s(3, 160)}, []bool{true}},
		{[]impl.Body{s(1, 0), s(2, 80), s(3, 160)}, []bool{false}},
		{[]impl.Body{s(1, 0), mover(2, 400), s(3, 80)}, []bool{false, true}},
		// quiet, but not yet asleep
		{[]impl.Body{s(1, 0), changed(mover(2, 80), func(b *impl.Body) { b.Quiet = impl.QuietMax - 1 })}, []bool{true}},
		// what is fixed is awake in no group, and wakes nothing
		{[]impl.Body{s(1, 0), rigid(mover(2, 80)), mover(3, 160)}, []bool{false, true}},
		{[]impl.Body{rigid(mover(1, 0)), s(2, 80)}, []bool{false}},
	} {
		if got := impl.GroupAwake(c.list); !slices.Equal(got, c.want) {
			t.Errorf("GroupAwake(%v) = %v, not %v", c.list, got, c.want)
		}
	}
}

func TestP38AllGroupsAreAllBodies(t *testing.T) {
	for _, list := range scenes() {
		groups := groupsByGoing(list)
		for group := range countOf(groups) + 2 {
			var want []impl.Body
			for i, b := range list {
				if groups[i] == group || b.Mass == 0 {
					want = append(want, b)
				}
			}
			got := impl.GroupOf(list, group)
			if !slices.Equal(got, want) {
				t.Errorf("GroupOf(%v, %d) = %v", list, group, got)
			}
			if again := impl.GroupOf(got, 0); !slices.Equal(again, got) {
				t.Errorf("GroupOf of a group by itself: %v is %v", got, again)
			}
		}
		for i, b := range list {
			if of := impl.GroupOf(list, groups[i]); b.Mass > 0 && !slices.Contains(of, b) {
				t.Errorf("%v is not in its group %v", b, of)
			}
		}
	}
}

func TestP38GroupsThatAreNone(t *testing.T) {
	list := []impl.Body{mover(1, 0), rigid(mover(2, 90)), mover(3, 180), rigid(mover(4, 5000))}
	still := []impl.Body{list[1], list[3]}
	for _, group := range []int{-1, -2, math.MinInt} {
		if got := impl.GroupOf(list, group); len(got) != 0 {
			t.Errorf("GroupOf(%d) = %v", group, got)
		}
	}
	for _, group := range []int{2, 3, math.MaxInt} {
		if got := impl.GroupOf(list, group); !slices.Equal(got, still) {
			t.Errorf("GroupOf(%d) = %v", group, got)
		}
	}
	if got := impl.GroupOf(list, 1); !slices.Equal(got, list[1:]) {
		t.Errorf("GroupOf(1) = %v", got)
	}
	if got := impl.GroupOf(nil, 0); len(got) != 0 {
		t.Errorf("GroupOf no bodies = %v", got)
	}
}

func TestP34To38BodiesThatAreNotOk(t *testing.T) {
	for _, list := range badLists() {
		if len(impl.Contacts(list)) != 0 || len(impl.Groups(list)) != 0 || len(impl.GroupAwake(list)) != 0 {
			t.Errorf("something is found in %v", list)
		}
		for _, group := range []int{-1, 0, 1, math.MaxInt} {
			if got := impl.GroupOf(list, group); len(got) != 0 {
				t.Errorf("GroupOf(%v, %d) = %v", list, group, got)
			}
		}
	}
}

func TestP34To38ArgumentsAreLeftAndNotShared(t *testing.T) {
	for _, list := range append(scenes(), badLists()...) {
		given := spare(list, plain())
		before := slices.Clone(whole(given))
		contacts, groups, awake := impl.Contacts(given), impl.Groups(given), impl.GroupAwake(given)
		wantContacts, wantGroups, wantAwake := slices.Clone(contacts), slices.Clone(groups), slices.Clone(awake)
		clear(whole(contacts))
		clear(whole(groups))
		clear(whole(awake))
		for group := -1; group <= 3; group++ {
			clear(whole(impl.GroupOf(given, group)))
		}
		if !slices.Equal(whole(given), before) {
			t.Errorf("something was written into %v", before)
		}
		if !slices.Equal(impl.Contacts(given), wantContacts) || !slices.Equal(impl.Groups(given), wantGroups) || !slices.Equal(impl.GroupAwake(given), wantAwake) {
			t.Errorf("an answer of %v was kept", list)
		}
	}
}
