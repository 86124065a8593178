package tests

import (
	"math"
	"math/rand/v2"
	"slices"
	"testing"

	"loop.example/parquetry/impl"
)

func item(id int, b impl.Box) impl.Item {
	return impl.Item{Id: id, Box: b}
}

func broad(items ...impl.Item) impl.Broad {
	return impl.Broad{Items: items}
}

func sameBroad(a impl.Broad, b impl.Broad) bool {
	return slices.Equal(a.Items, b.Items)
}

// anyBox: a box with corners in -most..most.
func anyBox(r *rand.Rand, most int) impl.Box {
	x, y := r.IntN(2*most+1)-most, r.IntN(2*most+1)-most
	u, v := r.IntN(2*most+1)-most, r.IntN(2*most+1)-most
	return box(min(x, u), min(y, v), max(x, u), max(y, v))
}

// smallBox: a box of at most size, somewhere in -most..most.
func smallBox(r *rand.Rand, most int, size int) impl.Box {
	x, y := r.IntN(2*most+1)-most, r.IntN(2*most+1)-most
	return box(x, y, min(most, x+r.IntN(size+1)), min(most, y+r.IntN(size+1)))
}

// row: so many boxes side by side, each meeting the next one at its side, under the Ids 0, step, twice step ..
func row(count int, step int) impl.Broad {
	var b impl.Broad
	for i := range count {
		b.Items = append(b.Items, item(i*step, box(10*i, 0, 10*i+10, 10)))
	}
	return b
}

// someBroads: none, few, and as many boxes as there may be, close together and far apart, at the limits of numbers too.
func someBroads() []impl.Broad {
	r, most := fixed(), impl.FixMax
	all := box(-most, -most, most, most)
	list := []impl.Broad{
		{}, broad(item(0, impl.Box{})), broad(item(most, all)),
		broad(item(0, all), item(most, box(most, most, most, most))),
		broad(item(1, box(-most, -most, 0, 0)), item(2, box(0, 0, most, most)), item(3, box(1, 1, most, most))),
		row(impl.ItemMax, 1), row(impl.ItemMax, most/(impl.ItemMax-1)),
	}
	for _, count := range []int{2, 3, 5, 8, 13, 23, 24} {
		for _, spread := range []int{3, 40, 3000, most} {
			for _, size := range []int{0, 2, spread / 4} {
				var b impl.Broad
				id := r.IntN(3)
				for range count {
					b.Items = append(b.Items, item(id, smallBox(r, spread, size)))
					id += 1 + r.IntN(1000)
				}
				list = append(list, b)
			}
		}
	}
	return list
}

// badBroads: each with one thing that is not ok.
func badBroads() []impl.Broad {
	at, over := box(0, 0, 5, 5), impl.FixMax+1
	list := []impl.Broad{
		row(impl.ItemMax+1, 1), row(100, 1),
		broad(item(-1, at)), broad(item(over, at)), broad(item(math.MinInt, at), item(2, at)), broad(item(2, at), item(math.MaxInt, at)),
		broad(item(2, at), item(2, at)), broad(item(2, at), item(1, at)), broad(item(1, at), item(5, at), item(4, at)), broad(item(1, at), item(3, at), item(3, box(9, 9, 9, 9))),
		broad(item(3, at), item(1, at), item(2, at)),
	}
	for _, b := range badBoxes() {
		list = append(list, broad(item(1, b)), broad(item(1, at), item(2, b), item(3, at)))
	}
	return list
}

// pairsByLooking: all two that meet, found by looking at all.
func pairsByLooking(b impl.Broad) []impl.Pair {
	var list []impl.Pair
	for i, x := range b.Items {
		for _, y := range b.Items[i+1:] {
			if x.Box.Low.X <= y.Box.High.X && y.Box.Low.X <= x.Box.High.X && x.Box.Low.Y <= y.Box.High.Y && y.Box.Low.Y <= x.Box.High.Y {
				list = append(list, impl.Pair{A: x.Id, B: y.Id})
			}
		}
	}
	return list
}

// putInto: what BroadPut must answer of boxes and an item that are ok, found another way than the program does.
func putInto(b impl.Broad, x impl.Item) impl.Broad {
	list := slices.DeleteFunc(slices.Clone(b.Items), func(y impl.Item) bool { return y.Id == x.Id })
	list = append(list, x)
	slices.SortFunc(list, func(y impl.Item, z impl.Item) int { return y.Id - z.Id })
	return impl.Broad{Items: list}
}

func without(b impl.Broad, id int) impl.Broad {
	return impl.Broad{Items: slices.DeleteFunc(slices.Clone(b.Items), func(y impl.Item) bool { return y.Id == id })}
}

func TestBoxesByNumberThatAreOk(t *testing.T) {
	if impl.ItemMax != 24 {
		t.Error("ItemMax")
	}
	for _, b := range someBroads() {
		if !impl.BroadOk(b) {
			t.Errorf("%v is not ok", b)
		}
	}
	for _, b := range badBroads() {
		if impl.BroadOk(b) {
			t.Errorf("%v is ok", b)
		}
	}
}

func checkPut(t *testing.T, b impl.Broad, x impl.Item) {
	t.Helper()
	got, ok := impl.BroadPut(b, x)
	if !ok || !impl.BroadOk(got) || !sameBroad(got, putInto(b, x)) {
		t.Errorf("BroadPut(%v, %v) = %v, %t", b, x, got, ok)
	}
	if !slices.Contains(impl.BroadAsk(got, x.Box), x.Id) {
		t.Errorf("%v is not found behind BroadPut of %v", x, b)
	}
	if again, ok := impl.BroadPut(got, x); !ok || !sameBroad(again, got) {
		t.Errorf("%v put twice into %v is %v, %t", x, b, again, ok)
	}
	gone, ok := impl.BroadGone(got, x.Id)
	if !ok || !sameBroad(gone, without(b, x.Id)) || slices.Contains(impl.BroadAsk(gone, x.Box), x.Id) {
		t.Errorf("%v put into %v and taken away is %v, %t", x, b, gone, ok)
	}
	if still, ok := impl.BroadGone(gone, x.Id); ok || !sameBroad(still, gone) {
		t.Errorf("%d taken twice from %v is %v, %t", x.Id, got, still, ok)
	}
}

func TestP18ABoxThatWasPutIsThere(t *testing.T) {
	r, most := fixed(), impl.FixMax
	for _, b := range someBroads() {
		for _, x := range b.Items {
			checkPut(t, b, item(x.Id, anyBox(r, 50)))
		}
		if len(b.Items) == impl.ItemMax {
			continue
		}
		for _, id := range []int{0, 1, 2, 3, most - 1, most, r.IntN(most)} {
			checkPut(t, b, item(id, anyBox(r, 50)))
			checkPut(t, b, item(id, box(-most, -most, most, most)))
			checkPut(t, b, item(id, box(most, -most, most, -most)))
		}
	}
}

func TestP18AsManyAsTheLimitAndNoMore(t *testing.T) {
	var b impl.Broad
	for i := range impl.ItemMax {
		next, ok := impl.BroadPut(b, item(2*i+1, box(i, i, i, i)))
		if !ok || len(next.Items) != i+1 {
			t.Fatalf("the box %d is %v, %t", i, next, ok)
		}
		b = next
	}
	for _, id := range []int{0, 2, 24, 48, impl.FixMax} {
		if got, ok := impl.BroadPut(b, item(id, impl.Box{})); ok || !sameBroad(got, b) {
			t.Errorf("one too many, %d: %v, %t", id, got, ok)
		}
	}
	for _, id := range []int{1, 23, 47} {
		checkPut(t, b, item(id, box(-9, -9, 99, 99)))
	}
	less, _ := impl.BroadGone(b, 23)
	checkPut(t, less, item(24, box(3, 3, 4, 4)))
}

func TestP18WhatIsNotOkIsNotPut(t *testing.T) {
	over := impl.FixMax + 1
	bad := []impl.Item{item(-1, impl.Box{}), item(over, impl.Box{}), item(math.MinInt, impl.Box{}), item(math.MaxInt, impl.Box{})}
	for _, b := range badBoxes() {
		bad = append(bad, item(1, b), item(7, b))
	}
	for _, b := range someBroads() {
		for _, x := range bad {
			if got, ok := impl.BroadPut(b, x); ok || !sameBroad(got, b) {
				t.Errorf("BroadPut(%v, %v) = %v, %t", b, x, got, ok)
			}
		}
		for _, id := range []int{-1, over, math.MinInt, math.MaxInt} {
			if got, ok := impl.BroadGone(b, id); ok || !sameBroad(got, b) {
				t.Errorf("BroadGone(%v, %d) = %v, %t", b, id, got, ok)
			}
		}
	}
}

func TestP18To22BoxesThatAreNotOk(t *testing.T) {
	good, all := broad(item(1, box(0, 0, 9, 9)), item(2, box(0, 0, 9, 9))), box(-50, -50, 50, 50)
	for _, b := range badBroads() {
		for _, id := range []int{0, 1, 2, 3, -1} {
			if got, ok := impl.BroadPut(b, item(id, all)); ok || len(got.Items) != 0 {
				t.Errorf("BroadPut into %v = %v, %t", b, got, ok)
			}
			if got, ok := impl.BroadGone(b, id); ok || len(got.Items) != 0 {
				t.Errorf("BroadGone(%v, %d) = %v, %t", b, id, got, ok)
			}
		}
		if len(impl.BroadPairs(b)) != 0 || len(impl.BroadAsk(b, all)) != 0 || len(impl.BroadNew(b, good)) != 0 || len(impl.BroadNew(good, b)) != 0 || len(impl.BroadNew(b, b)) != 0 {
			t.Errorf("something is found in %v", b)
		}
	}
	for _, b := range badBoxes() {
		if got := impl.BroadAsk(good, b); len(got) != 0 {
			t.Errorf("BroadAsk of %v = %v", b, got)
		}
	}
}

func TestP19WhatIsTakenAwayMeetsNothing(t *testing.T) {
	for _, b := range someBroads() {
		pairs := impl.BroadPairs(b)
		for _, x := range b.Items {
			less, ok := impl.BroadGone(b, x.Id)
			if !ok || !sameBroad(less, without(b, x.Id)) {
				t.Errorf("BroadGone(%v, %d) = %v, %t", b, x.Id, less, ok)
			}
			want := slices.DeleteFunc(slices.Clone(pairs), func(p impl.Pair) bool { return p.A == x.Id || p.B == x.Id })
			if got := impl.BroadPairs(less); !slices.Equal(got, want) {
				t.Errorf("BroadPairs of %v without %d are %v", b, x.Id, got)
			}
		}
	}
}

func checkPairs(t *testing.T, b impl.Broad) {
	t.Helper()
	got := impl.BroadPairs(b)
	if !slices.Equal(got, pairsByLooking(b)) {
		t.Errorf("BroadPairs(%v) = %v", b, got)
	}
	for _, x := range b.Items {
		var want []int
		for _, y := range b.Items {
			if impl.BoxMeets(x.Box, y.Box) {
				want = append(want, y.Id)
			}
		}
		if asked := impl.BroadAsk(b, x.Box); !slices.Equal(asked, want) {
			t.Errorf("BroadAsk(%v, %v) = %v", b, x.Box, asked)
		}
	}
}

func TestP20AllThatMeetAreFound(t *testing.T) {
	for _, b := range someBroads() {
		checkPairs(t, b)
	}
	r := fixed()
	for range 3000 {
		var b impl.Broad
		spread := 1 + r.IntN(400)
		for i := range r.IntN(impl.ItemMax + 1) {
			b.Items = append(b.Items, item(i, smallBox(r, spread, spread/3)))
		}
		checkPairs(t, b)
	}
}

func TestP20AllAtOneSpot(t *testing.T) {
	var b impl.Broad
	for i := range impl.ItemMax {
		b.Items = append(b.Items, item(i, box(4, 4, 4, 4)))
	}
	checkPairs(t, b)
	if got := len(impl.BroadPairs(b)); got != 276 {
		t.Errorf("24 boxes at one spot are %d pairs", got)
	}
}

func TestP20SidesThatJustMeet(t *testing.T) {
	middle := item(5, box(0, 0, 10, 10))
	for _, b := range []impl.Box{box(10, 0, 20, 10), box(-10, 0, 0, 10), box(0, 10, 10, 20), box(0, -10, 10, 0), box(10, 10, 11, 11), box(-1, -1, 0, 0), box(10, -1, 11, 0), box(-1, 10, 0, 11)} {
		if got := impl.BroadPairs(broad(middle, item(6, b))); !slices.Equal(got, []impl.Pair{{A: 5, B: 6}}) {
			t.Errorf("%v just meets: %v", b, got)
		}
		if got := impl.BroadPairs(broad(item(0, b), middle)); !slices.Equal(got, []impl.Pair{{A: 0, B: 5}}) {
			t.Errorf("%v just meets: %v", b, got)
		}
	}
	for _, b := range []impl.Box{box(11, 0, 20, 10), box(-10, 0, -1, 10), box(0, 11, 10, 20), box(0, -10, 10, -1), box(11, 10, 12, 11), box(10, 11, 11, 12)} {
		if got := impl.BroadPairs(broad(middle, item(6, b))); len(got) != 0 {
			t.Errorf("%v is 1 away: %v", b, got)
		}
	}
}

func TestP20PairsAreByTheFirstAndThenTheSecond(t *testing.T) {
	b := broad(item(0, box(0, 0, 100, 1)), item(3, box(90, 0, 95, 5)), item(7, box(1, 1, 2, 50)), item(8, box(0, 40, 95, 60)), item(impl.FixMax, box(94, 5, 94, 50)))
	want := []impl.Pair{{A: 0, B: 3}, {A: 0, B: 7}, {A: 3, B: impl.FixMax}, {A: 7, B: 8}, {A: 8, B: impl.FixMax}}
	if got := impl.BroadPairs(b); !slices.Equal(got, want) {
		t.Error(got)
	}
}

func TestP21WhatMeetsABoxMeetsEachThatHasIt(t *testing.T) {
	r := fixed()
	for _, b := range someBroads() {
		for range 30 {
			few, other := anyBox(r, 1<<r.IntN(30)), anyBox(r, 1<<r.IntN(30))
			var want []int
			for _, x := range b.Items {
				if impl.BoxMeets(few, x.Box) {
					want = append(want, x.Id)
				}
			}
			got := impl.BroadAsk(b, few)
			if !slices.Equal(got, want) || !slices.IsSorted(got) {
				t.Errorf("BroadAsk(%v, %v) = %v", b, few, got)
			}
			more := impl.BroadAsk(b, impl.BoxBoth(few, other))
			for _, id := range got {
				if !slices.Contains(more, id) {
					t.Errorf("%d of %v meets %v, not that and %v", id, b, few, other)
				}
			}
		}
	}
}

func TestP21AskedAtTheLimits(t *testing.T) {
	most := impl.FixMax
	b := broad(item(0, box(-most, -most, -most, -most)), item(4, box(0, 0, 0, 0)), item(most, box(most, most, most, most)))
	for _, c := range []struct {
		box  impl.Box
		want []int
	}{
		{box(-most, -most, most, most), []int{0, 4, most}},
		{box(-most, -most, -most, -most), []int{0}},
		{box(most, most, most, most), []int{most}},
		{box(1-most, 1-most, most-1, most-1), []int{4}},
		{box(1, 1, most-1, most), nil},
		{box(1, -most, most, 0), nil},
	} {
		if got := impl.BroadAsk(b, c.box); !slices.Equal(got, c.want) {
			t.Errorf("BroadAsk of %v = %v", c.box, got)
		}
	}
	if got := impl.BroadAsk(impl.Broad{}, box(-most, -most, most, most)); len(got) != 0 {
		t.Error(got)
	}
}

func checkNew(t *testing.T, a impl.Broad, b impl.Broad) {
	t.Helper()
	old, now := pairsByLooking(a), pairsByLooking(b)
	var fresh []impl.Pair
	for _, p := range now {
		if !slices.Contains(old, p) {
			fresh = append(fresh, p)
		}
	}
	if got := impl.BroadNew(a, b); !slices.Equal(got, fresh) {
		t.Errorf("BroadNew(%v, %v) = %v", a, b, got)
	}
}

func TestP22WhatIsNewMeetsNow(t *testing.T) {
	list, r := someBroads(), fixed()
	for i, a := range list {
		checkNew(t, a, a)
		checkNew(t, impl.Broad{}, a)
		checkNew(t, a, impl.Broad{})
		checkNew(t, a, list[(i+1)%len(list)])
		moved := a
		for range 3 {
			if len(a.Items) > 0 {
				moved = putInto(moved, item(a.Items[r.IntN(len(a.Items))].Id, anyBox(r, 60)))
			}
		}
		checkNew(t, a, moved)
		checkNew(t, moved, a)
	}
	a := broad(item(1, box(0, 0, 5, 5)), item(2, box(5, 5, 9, 9)), item(3, box(20, 0, 21, 1)))
	b := broad(item(1, box(0, 0, 5, 5)), item(2, box(4, 4, 20, 9)), item(3, box(20, 0, 21, 4)))
	if got := impl.BroadNew(a, b); !slices.Equal(got, []impl.Pair{{A: 2, B: 3}}) {
		t.Error(got)
	}
}

func TestP23TheOrderOfPuttingDoesNotMatter(t *testing.T) {
	r := fixed()
	for _, b := range someBroads() {
		orders := [][]int{{}, {}, r.Perm(len(b.Items)), r.Perm(len(b.Items))}
		for i := range b.Items {
			orders[0] = append(orders[0], i)
			orders[1] = append(orders[1], len(b.Items)-1-i)
		}
		for _, order := range orders {
			var got impl.Broad
			ok := true
			for _, i := range order {
				var put bool
				got, put = impl.BroadPut(got, b.Items[i])
				ok = ok && put
			}
			if !ok || !sameBroad(got, b) {
				t.Errorf("%v put in the order %v is %v", b, order, got)
			}
		}
	}
}

// spareBroad: the same boxes, with spare room behind them that holds something.
func spareBroad(b impl.Broad) impl.Broad {
	list := append(slices.Clone(b.Items), item(-7, box(7, 7, 7, 7)), item(-8, box(8, 8, 8, 8)))
	return impl.Broad{Items: list[:len(b.Items)]}
}

// whole: a list and its spare room.
func whole[T any](list []T) []T {
	return list[:cap(list)]
}

// checkApart: an answer of boxes shares no memory with an argument of boxes.
func checkApart(t *testing.T, name string, given impl.Broad, answer impl.Broad) {
	t.Helper()
	before, all := slices.Clone(whole(given.Items)), whole(answer.Items)
	for i := range all {
		all[i] = item(-99, box(-99, -99, -99, -99))
	}
	if !slices.Equal(whole(given.Items), before) {
		t.Errorf("%s of %v: the answer is the argument's memory", name, before)
	}
}

func TestP18To22ArgumentsAreLeftAndNotShared(t *testing.T) {
	r, most := fixed(), impl.FixMax
	for _, b := range append(someBroads(), badBroads()...) {
		given, other := spareBroad(b), spareBroad(row(20, 2))
		before, beforeOther := slices.Clone(whole(given.Items)), slices.Clone(whole(other.Items))
		ids := []int{-1, 0, 3, most, most + 1}
		if len(b.Items) > 0 {
			ids = append(ids, b.Items[0].Id, b.Items[len(b.Items)-1].Id, b.Items[len(b.Items)/2].Id)
		}
		for _, id := range ids {
			put, _ := impl.BroadPut(given, item(id, anyBox(r, 30)))
			checkApart(t, "BroadPut", given, put)
			gone, _ := impl.BroadGone(given, id)
			checkApart(t, "BroadGone", given, gone)
		}
		impl.BroadOk(given)
		impl.BroadPairs(given)
		impl.BroadAsk(given, box(-most, -most, most, most))
		impl.BroadNew(given, other)
		impl.BroadNew(other, given)
		if !slices.Equal(whole(given.Items), before) || !slices.Equal(whole(other.Items), beforeOther) {
			t.Errorf("something was written into %v", before)
		}
	}
}

func TestP20To22AnswersAreNewEachTime(t *testing.T) {
	all := box(-50, -50, 500, 500)
	for _, b := range someBroads() {
		pairs, asked, fresh := impl.BroadPairs(b), impl.BroadAsk(b, all), impl.BroadNew(impl.Broad{}, b)
		wantPairs, wantAsked := slices.Clone(pairs), slices.Clone(asked)
		clear(whole(fresh))
		if !slices.Equal(pairs, wantPairs) {
			t.Error("BroadNew and BroadPairs share memory")
		}
		clear(whole(pairs))
		clear(whole(asked))
		if !slices.Equal(impl.BroadPairs(b), wantPairs) || !slices.Equal(impl.BroadNew(impl.Broad{}, b), wantPairs) || !slices.Equal(impl.BroadAsk(b, all), wantAsked) {
			t.Errorf("an answer of %v was kept", b)
		}
	}
}
