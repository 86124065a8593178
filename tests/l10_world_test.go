package tests

import (
	"cmp"
	"fmt"
	"math"
	"math/rand/v2"
	"reflect"
	"regexp"
	"runtime"
	"slices"
	"strconv"
	"strings"
	"testing"
	"time"

	"loop.example/parquetry/impl"
)

func pair(a int, b int) impl.Pair {
	return impl.Pair{A: a, B: b}
}

func begins(a int, b int) impl.Event {
	return impl.Event{Begins: true, Pair: pair(a, b)}
}

func ends(a int, b int) impl.Event {
	return impl.Event{Pair: pair(a, b)}
}

// worldOf: a world of some bodies, in the midst of its course.
func worldOf(list ...impl.Body) impl.World {
	return impl.World{Tick: 5, Pull: 32, Bodies: list}
}

// touching: the world, its Pairs being all that touch.
func touching(w impl.World) impl.World {
	w.Pairs = impl.StepPairs(w.Bodies)
	return w
}

func sameWorld(a impl.World, b impl.World) bool {
	return a.Tick == b.Tick && a.Pull == b.Pull && slices.Equal(a.Bodies, b.Bodies) && slices.Equal(a.Pairs, b.Pairs)
}

func noWorld(w impl.World) bool {
	return sameWorld(w, impl.World{})
}

// anyPairs: some pairs of the bodies, in order, whether they touch or not.
func anyPairs(r *rand.Rand, list []impl.Body) []impl.Pair {
	var pairs []impl.Pair
	for i, a := range list {
		for _, b := range list[i+1:] {
			if r.IntN(3) == 0 {
				pairs = append(pairs, pair(a.Id, b.Id))
			}
		}
	}
	return pairs
}

// goodWorlds: worlds with few and many bodies, many of them touching, with Ticks, Pulls and Pairs of all kinds.
func goodWorlds() []impl.World {
	r := fixed()
	most := impl.TickMax
	ticks := []int{0, 1, 77, most - 1, most}
	list := []impl.World{{}, {Tick: most, Pull: impl.PullMax}, {Bodies: []impl.Body{}, Pairs: []impl.Pair{}}}
	for i, bodies := range courses() {
		if i%4 != 0 {
			continue
		}
		w := impl.World{Tick: ticks[r.IntN(5)], Pull: somePulls()[r.IntN(5)], Bodies: bodies}
		switch r.IntN(3) {
		case 0:
			w = touching(w)
		case 1:
			w.Pairs = anyPairs(r, bodies)
		}
		list = append(list, w)
	}
	return list
}

// badWorlds: each with one thing that is not ok.
func badWorlds() []impl.World {
	three := worldOf(balls(3)...)
	var list []impl.World
	for _, n := range []int{-1, math.MinInt, math.MaxInt, impl.TickMax + 1} {
		w := three
		w.Tick = n
		list = append(list, w, impl.World{Tick: n})
	}
	for _, n := range badPulls() {
		w := three
		w.Pull = n
		list = append(list, w, impl.World{Pull: n})
	}
	for _, bodies := range badLists() {
		list = append(list, worldOf(bodies...))
	}
	for _, pairs := range badPairs() {
		w := three
		w.Pairs = pairs
		list = append(list, w)
	}
	return append(list, impl.World{Pairs: []impl.Pair{{A: 0, B: 1}}}, impl.World{Pairs: []impl.Pair{{}}})
}

// badPairs: Pairs that bodies 0, 1 and 2 cannot have.
func badPairs() [][]impl.Pair {
	return [][]impl.Pair{
		{pair(0, 0)}, {pair(1, 0)}, {pair(2, 1)}, {pair(0, 3)}, {pair(-1, 1)}, {pair(1, 3)}, {pair(3, 4)},
		{pair(math.MinInt, math.MaxInt)}, {pair(0, 1), pair(0, 1)}, {pair(0, 2), pair(0, 1)}, {pair(1, 2), pair(0, 1)},
		{pair(1, 2), pair(0, 2)}, {pair(0, 1), pair(1, 2), pair(0, 2)}, {pair(0, 1), pair(0, 2), pair(1, 2), pair(2, 2)}, {pair(0, 1), pair(1, 0)},
	}
}

// indexOf: the place of a body, -1 if it is not there.
func indexOf(list []impl.Body, id int) int {
	return slices.IndexFunc(list, func(b impl.Body) bool { return b.Id == id })
}

// putByWords: what WorldPut must answer of a world that is ok.
func putByWords(w impl.World, b impl.Body) (impl.World, int) {
	switch {
	case !impl.BodyOk(b):
		return w, 1
	case indexOf(w.Bodies, b.Id) >= 0:
		return w, 2
	case len(w.Bodies) == 12:
		return w, 3
	}
	w.Bodies = append(slices.Clone(w.Bodies), b)
	slices.SortFunc(w.Bodies, func(a impl.Body, b impl.Body) int { return a.Id - b.Id })
	return w, 0
}

// goneByWords: what WorldGone must answer of a world that is ok.
func goneByWords(w impl.World, id int) (impl.World, int) {
	place := indexOf(w.Bodies, id)
	if place < 0 {
		return w, 4
	}
	next := impl.World{Tick: w.Tick, Pull: w.Pull}
	x := w.Bodies[place]
	for _, b := range w.Bodies {
		if b.Id == id {
			continue
		}
		if _, ok := impl.Touch(b.Shape, b.At, x.Shape, x.At); ok && b.Quiet == 8 {
			b.Quiet = 0
		}
		next.Bodies = append(next.Bodies, b)
	}
	for _, p := range w.Pairs {
		if p.A != id && p.B != id {
			next.Pairs = append(next.Pairs, p)
		}
	}
	return next, 0
}

// pushByNumber: what WorldPush must answer of a world that is ok.
func pushByNumber(w impl.World, id int, p impl.Vec) (impl.World, int) {
	place := indexOf(w.Bodies, id)
	switch {
	case max(distance(heldIn(p.X, impl.FixMax), 0), distance(heldIn(p.Y, impl.FixMax), 0)) > impl.DriveMax:
		return w, 1
	case place < 0:
		return w, 4
	}
	w.Bodies = slices.Clone(w.Bodies)
	w.Bodies[place] = pushedBy(w.Bodies[place], p)
	return w, 0
}

// worldStepByWords: what WorldStep must answer of a world that is ok.
func worldStepByWords(w impl.World) (impl.World, []impl.Event) {
	if w.Tick == 100000 {
		return w, nil
	}
	next := impl.World{Tick: w.Tick + 1, Pull: w.Pull, Bodies: stepByWords(w.Bodies, w.Pull)}
	for _, k := range contactsByLooking(next.Bodies) {
		next.Pairs = append(next.Pairs, pair(next.Bodies[k.A].Id, next.Bodies[k.B].Id))
	}
	var events []impl.Event
	for _, p := range w.Pairs {
		if !slices.Contains(next.Pairs, p) {
			events = append(events, impl.Event{Pair: p})
		}
	}
	for _, p := range next.Pairs {
		if !slices.Contains(w.Pairs, p) {
			events = append(events, impl.Event{Begins: true, Pair: p})
		}
	}
	return next, events
}

// checkStepOf: that this is the world, and these the events, behind a step.
func checkStepOf(t *testing.T, name string, w impl.World, want impl.World, events ...impl.Event) {
	t.Helper()
	got, told := impl.WorldStep(w)
	if !sameWorld(got, want) || !slices.Equal(told, events) {
		t.Errorf("%s: %v and %v, not %v and %v", name, got, told, want, events)
	}
}

func TestLimitsOfWorlds(t *testing.T) {
	if impl.TickMax != 100000 || impl.WorldFine != 0 || impl.WorldBad != 1 || impl.WorldSame != 2 || impl.WorldMany != 3 || impl.WorldNone != 4 {
		t.Error("limits")
	}
}

func TestWorldsThatAreOk(t *testing.T) {
	for _, w := range goodWorlds() {
		if !impl.WorldOk(w) {
			t.Errorf("%v is not ok", w)
		}
	}
	for _, w := range badWorlds() {
		if impl.WorldOk(w) {
			t.Errorf("%v is ok", w)
		}
	}
	for _, pairs := range [][]impl.Pair{nil, {}, {pair(0, 1)}, {pair(0, 1), pair(0, 2)}, {pair(0, 2), pair(1, 2)}, {pair(0, 1), pair(0, 2), pair(1, 2)}} {
		w := impl.World{Bodies: balls(3), Pairs: pairs}
		if !impl.WorldOk(w) {
			t.Errorf("%v is not ok", w)
		}
	}
}

func TestP54AWorldBeginsWithoutBodies(t *testing.T) {
	for _, pull := range somePulls() {
		w := impl.WorldNew(pull)
		if !reflect.DeepEqual(w, impl.World{Pull: pull}) || !impl.WorldOk(w) {
			t.Errorf("WorldNew(%d) = %v", pull, w)
		}
		for tick := range 5 {
			checkStepOf(t, "without bodies", w, impl.World{Tick: tick + 1, Pull: pull})
			w, _ = impl.WorldStep(w)
		}
	}
	for _, pull := range badPulls() {
		if w := impl.WorldNew(pull); !noWorld(w) {
			t.Errorf("WorldNew(%d) = %v", pull, w)
		}
	}
}

func TestP54TheLastStep(t *testing.T) {
	most := impl.TickMax
	checkStepOf(t, "the last but one", impl.World{Tick: most - 2}, impl.World{Tick: most - 1})
	checkStepOf(t, "the last", impl.World{Tick: most - 1, Pull: 5}, impl.World{Tick: most, Pull: 5})
	checkStepOf(t, "behind the last", impl.World{Tick: most, Pull: 5}, impl.World{Tick: most, Pull: 5})
	checkStepOf(t, "past it", impl.World{Tick: most + 1, Pull: 5}, impl.World{})
	checkStepOf(t, "below 0", impl.World{Tick: -1, Pull: 5}, impl.World{})
	// What falls, and touches what is in no pair, stays when there are no more steps; so does a pair that does not touch.
	w := impl.World{Tick: most, Pull: 9, Bodies: []impl.Body{mover(1, 0), mover(2, 90), mover(5, 500)}, Pairs: []impl.Pair{pair(1, 5)}}
	checkStepOf(t, "all as it is", w, w)
}

func checkPutOf(t *testing.T, w impl.World, b impl.Body) {
	t.Helper()
	want, code := putByWords(w, b)
	got, k := impl.WorldPut(w, b)
	if k != code || !sameWorld(got, want) {
		t.Fatalf("WorldPut(%v, %v) = %v, %d, not %v, %d", w, b, got, k, want, code)
	}
	if code != impl.WorldFine {
		return
	}
	if place := indexOf(got.Bodies, b.Id); place < 0 || got.Bodies[place] != b || !impl.WorldOk(got) {
		t.Errorf("WorldPut(%v, %v) = %v", w, b, got)
	}
	if again, k := impl.WorldPut(got, b); k != impl.WorldSame || !sameWorld(again, got) {
		t.Errorf("put again: %v, %d", again, k)
	}
	back, k := impl.WorldGone(got, b.Id)
	if k != impl.WorldFine || len(back.Bodies) != len(w.Bodies) || back.Tick != w.Tick || back.Pull != w.Pull || !slices.Equal(back.Pairs, w.Pairs) {
		t.Fatalf("%v put and gone is %v, %d", w, back, k)
	}
	for i, x := range back.Bodies {
		if x.Quiet = w.Bodies[i].Quiet; x != w.Bodies[i] {
			t.Errorf("%v put and gone is %v", w, back)
		}
	}
}

func TestP55ABodyThatWasPutIsThere(t *testing.T) {
	r := fixed()
	fine := 0
	for _, w := range goodWorlds() {
		for range 5 {
			checkPutOf(t, w, anyBody(r, r.IntN(4000), 1000, 500))
		}
		if len(w.Bodies) > 0 {
			b := w.Bodies[r.IntN(len(w.Bodies))]
			checkPutOf(t, w, b)
			b.At.X = 7
			checkPutOf(t, w, b)
		}
		if len(w.Bodies) < impl.BodyMax {
			fine++
		}
	}
	if fine < 100 {
		t.Errorf("only %d with room for more", fine)
	}
	for _, b := range append(goodBodies(), badBodies()...) {
		checkPutOf(t, worldOf(), b)
		checkPutOf(t, touching(worldOf(balls(4)...)), b)
	}
}

func TestP55ABodyIsPutInItsPlace(t *testing.T) {
	last := impl.FixMax - 1
	list := []impl.Body{mover(3, 0), mover(6, 300), mover(9, 600)}
	w := worldOf(list...)
	w.Pairs = []impl.Pair{pair(3, 9)}
	for _, c := range []struct{ id, place int }{{0, 0}, {2, 0}, {4, 1}, {5, 1}, {7, 2}, {10, 3}, {last, 3}} {
		b := asleep(mover(c.id, 10))
		got, k := impl.WorldPut(w, b)
		want := w
		want.Bodies = slices.Insert(slices.Clone(list), c.place, b)
		if k != impl.WorldFine || !sameWorld(got, want) {
			t.Errorf("put %d: %v, %d", c.id, got, k)
		}
	}
}

func TestP55CodesInTheirOrder(t *testing.T) {
	full, bad := worldOf(balls(impl.BodyMax)...), mover(3, 0)
	bad.Rub = -1
	for i, c := range []struct {
		w    impl.World
		b    impl.Body
		want int
	}{
		{worldOf(balls(impl.BodyMax - 1)...), mover(50, 0), impl.WorldFine},
		{full, mover(50, 0), impl.WorldMany},
		{full, mover(3, 7), impl.WorldSame},
		{full, bad, impl.WorldBad},
		{full, impl.Body{Id: 50}, impl.WorldBad},
		{full, impl.Body{}, impl.WorldBad},
		{worldOf(balls(5)...), bad, impl.WorldBad},
		{worldOf(balls(5)...), mover(3, 7), impl.WorldSame},
		{worldOf(balls(5)...), balls(5)[3], impl.WorldSame},
		{worldOf(balls(5)...), mover(5, 7), impl.WorldFine},
		{worldOf(balls(5)...), mover(-1, 7), impl.WorldBad},
		{worldOf(balls(5)...), mover(impl.FixMax, 7), impl.WorldBad},
	} {
		got, k := impl.WorldPut(c.w, c.b)
		if k != c.want || k != impl.WorldFine && !sameWorld(got, c.w) || k == impl.WorldFine && len(got.Bodies) != len(c.w.Bodies)+1 {
			t.Errorf("put %d: %v, %d", i, got, k)
		}
	}
}

func TestP55To59WorldsThatAreNotOk(t *testing.T) {
	for _, w := range badWorlds() {
		a, put := impl.WorldPut(w, mover(77, 0))
		b, gone := impl.WorldGone(w, 0)
		c, pushed := impl.WorldPush(w, 0, vec(5, 5))
		d, none := impl.WorldGone(w, 77)
		e, still := impl.WorldPush(w, 77, vec(5, 5))
		f, bad := impl.WorldPut(w, impl.Body{})
		for i, k := range []int{put, gone, pushed, none, still, bad} {
			if k != impl.WorldBad {
				t.Errorf("%d of %v has code %d", i, w, k)
			}
		}
		for i, x := range []impl.World{a, b, c, d, e, f} {
			if !noWorld(x) {
				t.Errorf("%d of %v is %v", i, w, x)
			}
		}
		if x, events := impl.WorldStep(w); !noWorld(x) || len(events) != 0 {
			t.Errorf("WorldStep(%v) = %v, %v", w, x, events)
		}
	}
}

// putAll: a world into which the bodies were put one behind the other.
func putAll(t *testing.T, pull int, list []impl.Body) impl.World {
	t.Helper()
	w := impl.WorldNew(pull)
	for _, b := range list {
		next, k := impl.WorldPut(w, b)
		if k != impl.WorldFine {
			t.Fatalf("WorldPut(%v, %v) = %d", w, b, k)
		}
		w = next
	}
	return w
}

func TestP56TheOrderOfPuttingDoesNotMatter(t *testing.T) {
	r := fixed()
	for _, w := range goodWorlds() {
		first := putAll(t, w.Pull, w.Bodies)
		back, other := slices.Clone(w.Bodies), slices.Clone(w.Bodies)
		slices.Reverse(back)
		r.Shuffle(len(other), func(i int, j int) { other[i], other[j] = other[j], other[i] })
		second, third := putAll(t, w.Pull, back), putAll(t, w.Pull, other)
		for range 4 {
			if !sameWorld(first, second) || !sameWorld(first, third) {
				t.Fatalf("put in another order: %v, %v, %v", first, second, third)
			}
			a, told := impl.WorldStep(first)
			b, also := impl.WorldStep(second)
			c, too := impl.WorldStep(third)
			if !slices.Equal(told, also) || !slices.Equal(told, too) {
				t.Errorf("events of %v: %v, %v, %v", first, told, also, too)
			}
			first, second, third = a, b, c
		}
	}
}

func TestP57WhatWasTakenOutIsNotThere(t *testing.T) {
	woken := 0
	for _, w := range goodWorlds() {
		ids := []int{-1, 4001, impl.FixMax, math.MaxInt, math.MinInt}
		for _, b := range w.Bodies {
			ids = append(ids, b.Id, b.Id+1)
		}
		for _, id := range ids {
			want, code := goneByWords(w, id)
			got, k := impl.WorldGone(w, id)
			if k != code || !sameWorld(got, want) || !impl.WorldOk(got) {
				t.Fatalf("WorldGone(%v, %d) = %v, %d, not %v, %d", w, id, got, k, want, code)
			}
			for _, b := range got.Bodies {
				if old := w.Bodies[indexOf(w.Bodies, b.Id)]; impl.BodySleeps(old) && !impl.BodySleeps(b) {
					woken++
				}
			}
		}
	}
	if woken < 100 {
		t.Errorf("only %d woke", woken)
	}
}

func TestP57WhoWakes(t *testing.T) {
	s := func(id int, x int) impl.Body { return asleep(mover(id, x)) }
	up := func(id int, x int) impl.Body { return changed(mover(id, x), func(b *impl.Body) { b.Quiet = 0 }) }
	quiet := changed(mover(5, 90), func(b *impl.Body) { b.Quiet = 7; b.Drive = vec(3, 4) })
	for i, c := range []struct {
		bodies []impl.Body
		gone   int
		want   []impl.Body
	}{
		// just touching, and 1 apart
		{[]impl.Body{s(1, 0), s(2, 100)}, 1, []impl.Body{up(2, 100)}},
		{[]impl.Body{s(1, 0), s(2, 100)}, 2, []impl.Body{up(1, 0)}},
		{[]impl.Body{s(1, 0), s(2, 101)}, 1, []impl.Body{s(2, 101)}},
		// of a row only the next ones, though all are of one group
		{[]impl.Body{s(1, 0), s(2, 100), s(3, 200), s(4, 300)}, 1, []impl.Body{up(2, 100), s(3, 200), s(4, 300)}},
		{[]impl.Body{s(1, 0), s(2, 100), s(3, 200), s(4, 300)}, 2, []impl.Body{up(1, 0), up(3, 200), s(4, 300)}},
		// what is fixed, or awake, is taken out
		{[]impl.Body{rigid(mover(1, 0)), s(2, 100), s(3, 900)}, 1, []impl.Body{up(2, 100), s(3, 900)}},
		{[]impl.Body{mover(1, 0), s(2, 100)}, 1, []impl.Body{up(2, 100)}},
		// what is fixed, or awake, stays as it is
		{[]impl.Body{s(1, 0), rigid(mover(2, 50)), quiet}, 1, []impl.Body{rigid(mover(2, 50)), quiet}},
		{[]impl.Body{s(1, 0)}, 1, nil},
		// bounds that meet, of what does not touch
		{[]impl.Body{s(1, 0), changed(s(2, 71), func(b *impl.Body) { b.At.Y = 71 })}, 1, []impl.Body{changed(s(2, 71), func(b *impl.Body) { b.At.Y = 71 })}},
		{[]impl.Body{s(1, 0), changed(s(2, 70), func(b *impl.Body) { b.At.Y = 71 })}, 1, []impl.Body{changed(up(2, 70), func(b *impl.Body) { b.At.Y = 71 })}},
	} {
		if got, k := impl.WorldGone(worldOf(c.bodies...), c.gone); k != impl.WorldFine || !sameWorld(got, worldOf(c.want...)) {
			t.Errorf("gone %d: %v, %d", i, got, k)
		}
	}
}

func TestP57PairsOfWhatWasTakenOut(t *testing.T) {
	w := worldOf(balls(4)...)
	w.Pairs = []impl.Pair{pair(0, 1), pair(0, 2), pair(0, 3), pair(1, 2), pair(1, 3), pair(2, 3)}
	for id, want := range [][]impl.Pair{
		{pair(1, 2), pair(1, 3), pair(2, 3)}, {pair(0, 2), pair(0, 3), pair(2, 3)},
		{pair(0, 1), pair(0, 3), pair(1, 3)}, {pair(0, 1), pair(0, 2), pair(1, 2)},
	} {
		if got, k := impl.WorldGone(w, id); k != impl.WorldFine || !slices.Equal(got.Pairs, want) || indexOf(got.Bodies, id) >= 0 || len(got.Bodies) != 3 {
			t.Errorf("gone %d: %v, %d", id, got, k)
		}
	}
	// Who touched it is said by shapes: a pair of two that do not touch wakes nobody.
	w = worldOf(asleep(mover(1, 0)), asleep(mover(2, 500)), asleep(mover(3, 90)))
	w.Pairs = []impl.Pair{pair(1, 2)}
	want := worldOf(asleep(mover(2, 500)), mover(3, 90))
	if got, k := impl.WorldGone(w, 1); k != impl.WorldFine || !sameWorld(got, want) {
		t.Errorf("%v, %d, not %v", got, k, want)
	}
	for _, id := range []int{0, 4, -1, impl.FixMax, math.MinInt} {
		if got, k := impl.WorldGone(w, id); k != impl.WorldNone || !sameWorld(got, w) {
			t.Errorf("gone %d: %v, %d", id, got, k)
		}
	}
}

func TestP57WhatIsTakenFromBeneath(t *testing.T) {
	floor := impl.Body{Id: 1, Shape: slab(500, 100), At: vec(0, -150)}
	lies := asleep(at(2, vec(0, 0), 2, vec(0, 0), 0))
	above := asleep(at(3, vec(0, 100), 2, vec(0, 0), 0))
	w := touching(worldOf(floor, lies, above))
	checkStepOf(t, "asleep", w, impl.World{Tick: 6, Pull: 32, Bodies: w.Bodies, Pairs: w.Pairs})
	w, _ = impl.WorldGone(w, 1)
	if !slices.Equal(w.Pairs, []impl.Pair{pair(2, 3)}) || impl.BodySleeps(w.Bodies[0]) || !impl.BodySleeps(w.Bodies[1]) {
		t.Errorf("behind it: %v", w)
	}
	// The one that was woken wakes the other one of its group, and both fall.
	checkStepOf(t, "falling", w, impl.World{Tick: 6, Pull: 32, Bodies: []impl.Body{at(2, vec(0, -32), 2, vec(0, -64), 0), at(3, vec(0, 68), 2, vec(0, -64), 0)}, Pairs: []impl.Pair{pair(2, 3)}})
}

func TestP58OnlyWhatWasPushedIsDriven(t *testing.T) {
	pushed := 0
	for _, w := range goodWorlds() {
		ids := []int{-1, 4001, math.MaxInt, math.MinInt}
		for _, b := range w.Bodies {
			ids = append(ids, b.Id)
		}
		for i, id := range ids {
			for _, p := range []impl.Vec{someDrives()[i%len(someDrives())], vec(impl.DriveMax, -impl.DriveMax), noDrives()[i%len(noDrives())]} {
				want, code := pushByNumber(w, id, p)
				got, k := impl.WorldPush(w, id, p)
				if k != code || !sameWorld(got, want) || !impl.WorldOk(got) {
					t.Fatalf("WorldPush(%v, %d, %v) = %v, %d, not %v, %d", w, id, p, got, k, want, code)
				}
				if k != impl.WorldFine {
					continue
				}
				pushed++
				place := indexOf(w.Bodies, id)
				if got.Bodies[place] != impl.BodyPush(w.Bodies[place], p) {
					t.Errorf("WorldPush(%v, %d, %v) = %v", w, id, p, got)
				}
			}
		}
	}
	if pushed < 1000 {
		t.Errorf("only %d were pushed", pushed)
	}
}

func TestP58SomePushes(t *testing.T) {
	most := impl.DriveMax
	w := touching(worldOf(at(1, vec(0, 0), 2, vec(5, -5), 3), asleep(mover(2, 90)), rigid(mover(5, 60))))
	for i, c := range []struct {
		id   int
		p    impl.Vec
		code int
		want impl.Body
	}{
		{1, vec(1, 2), impl.WorldFine, at(1, vec(0, 0), 2, vec(6, -3), 0)},
		{1, vec(0, 0), impl.WorldFine, at(1, vec(0, 0), 2, vec(5, -5), 0)},
		{1, vec(most, -most), impl.WorldFine, at(1, vec(0, 0), 2, vec(most, -most), 0)},
		{1, vec(-most, most), impl.WorldFine, at(1, vec(0, 0), 2, vec(5-most, most-5), 0)},
		{2, vec(0, 7), impl.WorldFine, at(2, vec(90, 0), 2, vec(0, 7), 0)},
		{2, vec(0, 0), impl.WorldFine, mover(2, 90)},
		{5, vec(7, 7), impl.WorldFine, rigid(mover(5, 60))},
		// a code, and of two that both fit the one that is listed first
		{1, vec(most+1, 0), impl.WorldBad, impl.Body{}},
		{2, vec(0, -most-1), impl.WorldBad, impl.Body{}},
		{5, vec(0, most+1), impl.WorldBad, impl.Body{}},
		{3, vec(0, most+1), impl.WorldBad, impl.Body{}},
		{3, vec(0, most), impl.WorldNone, impl.Body{}},
		{-1, vec(0, 0), impl.WorldNone, impl.Body{}},
		{impl.FixMax, vec(math.MinInt, 0), impl.WorldBad, impl.Body{}},
	} {
		want := w
		if c.code == impl.WorldFine {
			want.Bodies = slices.Clone(w.Bodies)
			want.Bodies[indexOf(w.Bodies, c.id)] = c.want
		}
		if got, k := impl.WorldPush(w, c.id, c.p); k != c.code || !sameWorld(got, want) {
			t.Errorf("push %d: %v, %d, not %v, %d", i, got, k, want, c.code)
		}
	}
}

func TestP59AStepOfAWorldIsAStepOfItsBodies(t *testing.T) {
	ended, begun, several := 0, 0, 0
	for _, w := range goodWorlds() {
		for range 3 {
			want, events := worldStepByWords(w)
			checkStepOf(t, "a step", w, want, events...)
			if !impl.WorldOk(want) {
				t.Errorf("%v is not ok", want)
			}
			if w.Tick < impl.TickMax && (!slices.Equal(want.Bodies, impl.Step(w.Bodies, w.Pull)) || !slices.Equal(want.Pairs, impl.StepPairs(want.Bodies))) {
				t.Errorf("WorldStep(%v) is no Step: %v", w, want)
			}
			for _, e := range events {
				if e.Begins {
					begun++
				} else {
					ended++
				}
			}
			if countOf(groupsByGoing(w.Bodies)) > 1 {
				several++
			}
			w = want
		}
	}
	if ended < 100 || begun < 100 || several < 100 {
		t.Errorf("only %d ended, %d began, and %d had several groups", ended, begun, several)
	}
}

func TestP59PairsThatEndAndBegin(t *testing.T) {
	list := []impl.Body{asleep(mover(1, 0)), asleep(mover(2, 1000)), asleep(mover(3, 100)), asleep(mover(4, 1100))}
	w := impl.World{Pull: 9, Bodies: list, Pairs: []impl.Pair{pair(1, 2), pair(1, 3), pair(1, 4), pair(3, 4)}}
	next := impl.World{Tick: 1, Pull: 9, Bodies: list, Pairs: []impl.Pair{pair(1, 3), pair(2, 4)}}
	checkStepOf(t, "some end, and one is new", w, next, ends(1, 2), ends(1, 4), ends(3, 4), begins(2, 4))
	w.Pairs = nil
	checkStepOf(t, "all are new", w, next, begins(1, 3), begins(2, 4))
	w.Pairs = []impl.Pair{pair(1, 3), pair(2, 4)}
	checkStepOf(t, "none", w, next)
	w.Pairs = []impl.Pair{pair(2, 3), pair(2, 4)}
	checkStepOf(t, "an earlier one is new", w, next, ends(2, 3), begins(1, 3))
	// those that touch behind the step, not ahead of it
	coming := []impl.Body{at(1, vec(0, 0), 1, vec(0, 0), 0), at(2, vec(200, 0), 1, vec(-100, 0), 0)}
	checkStepOf(t, "coming", impl.World{Bodies: coming}, impl.World{Tick: 1, Bodies: []impl.Body{at(1, vec(0, 0), 1, vec(0, 0), 1), at(2, vec(100, 0), 1, vec(-100, 0), 0)}, Pairs: []impl.Pair{pair(1, 2)}}, begins(1, 2))
	going := []impl.Body{at(1, vec(0, 0), 1, vec(0, 0), 0), at(2, vec(100, 0), 1, vec(1, 0), 0)}
	checkStepOf(t, "going", touching(impl.World{Bodies: going}), impl.World{Tick: 1, Bodies: []impl.Body{at(1, vec(0, 0), 1, vec(0, 0), 1), at(2, vec(101, 0), 1, vec(1, 0), 1)}}, ends(1, 2))
	checkStepOf(t, "going, and not told to touch", impl.World{Bodies: going}, impl.World{Tick: 1, Bodies: []impl.Body{at(1, vec(0, 0), 1, vec(0, 0), 1), at(2, vec(101, 0), 1, vec(1, 0), 1)}})
	// two that are fixed are no pair, though they were told to be one
	walls := []impl.Body{rigid(mover(1, 0)), rigid(mover(2, 10))}
	checkStepOf(t, "fixed", impl.World{Bodies: walls, Pairs: []impl.Pair{pair(1, 2)}}, impl.World{Tick: 1, Bodies: walls}, ends(1, 2))
}

func TestP59TheOrderOfGroupsDoesNotMatter(t *testing.T) {
	// As many groups as there can be, and two that are entwined, beside what is fixed; over and over it must be the same.
	floor := impl.Body{Id: 4, Shape: slab(20000, 100), At: vec(0, -150), Bounce: 200}
	var apart []impl.Body
	for i := range impl.BodyMax {
		apart = append(apart, at(i, vec(300*i, 0), 1+i, vec(50*i, -70*i), 0))
	}
	apart[4] = floor
	entwined := []impl.Body{at(0, vec(0, 0), 1, vec(300, 0), 0), at(1, vec(1000, 0), 2, vec(-300, 0), 0), at(2, vec(90, 0), 3, vec(0, 40), 0), at(3, vec(1090, 0), 4, vec(0, -40), 0), floor}
	for _, list := range [][]impl.Body{apart, entwined} {
		want, events := worldStepByWords(worldOf(list...))
		for range 300 {
			checkStepOf(t, "again", worldOf(list...), want, events...)
		}
	}
}

func TestP59NoGoroutineIsLeft(t *testing.T) {
	before := runtime.NumGoroutine()
	for range 50 {
		impl.WorldStep(worldOf(anyBodies(fixed(), impl.BodyMax, impl.FarMax, 50)...))
	}
	// One that has answered may take a moment to be gone.
	for end := time.Now().Add(5 * time.Second); runtime.NumGoroutine() > before && time.Now().Before(end); {
		runtime.Gosched()
	}
	if now := runtime.NumGoroutine(); now > before {
		t.Errorf("%d goroutines ahead, and %d behind", before, now)
	}
}

// checkFar: that a body far away changes nothing about the others, nor about pairs that it is not of; how many pairs these are.
func checkFar(t *testing.T, w impl.World, far impl.Body) int {
	t.Helper()
	with, k := impl.WorldPut(w, far)
	if k != impl.WorldFine {
		t.Fatalf("WorldPut(%v, %v) = %d", w, far, k)
	}
	next, events := impl.WorldStep(w)
	other, also := impl.WorldStep(with)
	place := indexOf(other.Bodies, far.Id)
	if place < 0 || !slices.Equal(next.Bodies, slices.Delete(slices.Clone(other.Bodies), place, place+1)) {
		t.Fatalf("%v, and with %v: %v, %v", w, far, next, other)
	}
	pairs := slices.DeleteFunc(slices.Clone(other.Pairs), func(p impl.Pair) bool { return p.A == far.Id || p.B == far.Id })
	told := slices.DeleteFunc(slices.Clone(also), func(e impl.Event) bool { return e.Pair.A == far.Id || e.Pair.B == far.Id })
	if !slices.Equal(next.Pairs, pairs) || !slices.Equal(events, told) {
		t.Errorf("%v, and with %v: %v and %v, %v and %v", w, far, next.Pairs, events, other.Pairs, also)
	}
	return len(pairs)
}

func TestP60ABodyFarAwayChangesNothing(t *testing.T) {
	r, met := fixed(), 0
	for range 1000 {
		list := anyBodies(r, 1+r.IntN(impl.BodyMax-1), []int{300, 2000, 300000}[r.IntN(3)], 600)
		id := r.IntN(5000)
		if indexOf(list, id) >= 0 {
			continue
		}
		far := anyBody(r, id, 1000, impl.WideMax)
		far.At = vec(2000000+r.IntN(1000), r.IntN(2000)-1000)
		if r.IntN(2) == 0 {
			far.At = vec(r.IntN(2000)-1000, -2000000-r.IntN(1000))
		}
		met += checkFar(t, touching(impl.World{Pull: somePulls()[r.IntN(5)], Bodies: list}), far)
	}
	if met < 500 {
		t.Errorf("only %d pairs", met)
	}
}

func TestP60ABodyThatComesFromFarAway(t *testing.T) {
	w := touching(impl.World{Bodies: []impl.Body{asleep(mover(2, 0)), asleep(mover(9, 90)), mover(12, 600)}})
	for _, id := range []int{0, 5, 20} {
		checkFar(t, w, at(id, vec(2000000, 0), 1, vec(-2000000, 0), 0))
	}
	// It lands on what sleeps, and wakes it in the next step.
	came := at(5, vec(2000000, 0), 1, vec(-2000000, 10), 0)
	with, _ := impl.WorldPut(w, came)
	next, events := impl.WorldStep(with)
	if !slices.Equal(events, []impl.Event{begins(2, 5), begins(5, 9)}) || !impl.BodySleeps(next.Bodies[0]) || !impl.BodySleeps(next.Bodies[2]) {
		t.Errorf("it came: %v, %v", next, events)
	}
	if then, _ := impl.WorldStep(next); impl.BodySleeps(then.Bodies[0]) || impl.BodySleeps(then.Bodies[2]) {
		t.Errorf("it wakes nobody: %v", then)
	}
}

// pointsAbout: points in and about all bodies of a world, and at limits.
func pointsAbout(r *rand.Rand, w impl.World) []impl.Vec {
	list := places()
	for _, b := range w.Bodies {
		reach := impl.ShapeBounds(b.Shape, b.At)
		list = append(list, b.At, near(r, b.At, 2*b.Shape.Wide), vec(reach.High.X, b.At.Y), vec(reach.High.X+1, b.At.Y), vec(b.At.X, reach.Low.Y), reach.Low)
	}
	return list
}

func TestP61WhatHasAPoint(t *testing.T) {
	r, found := fixed(), 0
	for _, w := range goodWorlds() {
		for _, p := range pointsAbout(r, w) {
			var want []int
			for _, b := range w.Bodies {
				if impl.ShapeHas(b.Shape, b.At, p) {
					want = append(want, b.Id)
				}
			}
			got := impl.WorldAt(w, p)
			if !slices.Equal(got, want) {
				t.Errorf("WorldAt(%v, %v) = %v, not %v", w, p, got, want)
			}
			meets := impl.WorldIn(w, impl.Box{Low: p, High: p})
			for _, id := range got {
				if !slices.Contains(meets, id) {
					t.Errorf("%d of %v has %v, and its bounds do not", id, w, p)
				}
			}
			found += len(got)
		}
	}
	if found < 1000 {
		t.Errorf("only %d were found", found)
	}
}

func TestP61SomePoints(t *testing.T) {
	far := impl.FarMax
	corner := impl.Body{Id: 90, Shape: slab(50, 20), At: vec(far, -far)}
	w := worldOf(mover(2, 0), asleep(mover(7, 100)), rigid(mover(8, 60)), corner)
	for _, c := range []struct {
		p    impl.Vec
		want []int
	}{
		{vec(0, 0), []int{2}},
		{vec(50, 0), []int{2, 7, 8}},
		{vec(51, 0), []int{7, 8}},
		{vec(49, 0), []int{2, 8}},
		{vec(30, 40), []int{2, 8}},
		{vec(31, 40), []int{8}},
		{vec(-50, 0), []int{2}},
		{vec(-51, 0), nil},
		{vec(151, 0), nil},
		{vec(far, -far), []int{90}},
		{vec(far-50, 20-far), []int{90}},
		{vec(far-51, 20-far), nil},
		// in its bounds, and no places
		{vec(far+1, -far), nil},
		{vec(far, -far-1), nil},
		{vec(math.MaxInt, math.MinInt), nil},
	} {
		if got := impl.WorldAt(w, c.p); !slices.Equal(got, c.want) {
			t.Errorf("WorldAt %v = %v, not %v", c.p, got, c.want)
		}
	}
}

// boxesAbout: boxes in and about all bodies of a world, that are ok and not.
func boxesAbout(r *rand.Rand, w impl.World) []impl.Box {
	list := append(greatBoxes(), badBoxes()...)
	for _, b := range w.Bodies {
		x := impl.ShapeBounds(b.Shape, b.At)
		list = append(list, x, box(x.High.X, x.High.Y, x.High.X+9, x.High.Y+9), box(x.High.X+1, x.Low.Y, x.High.X+9, x.High.Y), box(x.Low.X-9, x.Low.Y-9, x.Low.X-1, x.Low.Y))
		p := near(r, b.At, 500)
		list = append(list, box(p.X, p.Y, p.X+r.IntN(900), p.Y+r.IntN(900)))
	}
	return list
}

func TestP62WhatIsInABox(t *testing.T) {
	r, found := fixed(), 0
	for _, w := range goodWorlds() {
		for _, x := range boxesAbout(r, w) {
			var want []int
			for _, b := range w.Bodies {
				if impl.BoxMeets(impl.ShapeBounds(b.Shape, b.At), x) {
					want = append(want, b.Id)
				}
			}
			got := impl.WorldIn(w, x)
			if !slices.Equal(got, want) {
				t.Errorf("WorldIn(%v, %v) = %v, not %v", w, x, got, want)
			}
			if !impl.BoxOk(x) {
				continue
			}
			greater := impl.WorldIn(w, impl.BoxBoth(x, anyBox(r, 5000)))
			for _, id := range got {
				if !slices.Contains(greater, id) {
					t.Errorf("%d of %v is in %v, and not in a greater box", id, w, x)
				}
			}
			found += len(got)
		}
		all := impl.WorldIn(w, box(-impl.FixMax, -impl.FixMax, impl.FixMax, impl.FixMax))
		if len(all) != len(w.Bodies) {
			t.Errorf("in all there is of %v only %v", w, all)
		}
	}
	if found < 1000 {
		t.Errorf("only %d were found", found)
	}
}

func TestP62BoxesThatJustMeet(t *testing.T) {
	far, over := impl.FarMax, impl.FixMax+1
	corner := impl.Body{Id: 90, Shape: slab(50, 20), At: vec(far, -far)}
	w := worldOf(mover(2, 0), asleep(mover(7, 100)), rigid(mover(8, 60)), corner)
	for _, c := range []struct {
		b    impl.Box
		want []int
	}{
		{box(0, 0, 0, 0), []int{2}},
		{box(50, 50, 90, 90), []int{2, 7, 8}},
		{box(51, 50, 90, 90), []int{7, 8}},
		{box(50, 51, 90, 90), nil},
		{box(-90, -90, -50, -50), []int{2}},
		{box(-90, -90, -51, -50), nil},
		{box(-90, -90, -50, -51), nil},
		{box(-900, 0, 900, 0), []int{2, 7, 8}},
		// past the end of the world
		{box(far+50, -far-20, far+60, -far-20), []int{90}},
		{box(far+51, -far-20, far+60, -far-20), nil},
		{box(far, -impl.FixMax, impl.FixMax, 0), []int{90}},
		// not ok
		{box(10, 0, 0, 0), nil},
		{box(0, 10, 0, 0), nil},
		{box(-over, 0, 0, 0), nil},
		{box(0, 0, 0, over), nil},
	} {
		if got := impl.WorldIn(w, c.b); !slices.Equal(got, c.want) {
			t.Errorf("WorldIn %v = %v, not %v", c.b, got, c.want)
		}
	}
}

// firstMet: what WorldRay must answer of a world that is ok.
func firstMet(w impl.World, x impl.Ray) (int, int) {
	var met []impl.Pair
	for _, b := range w.Bodies {
		if n, ok := impl.RayShape(x, b.Shape, b.At); ok {
			met = append(met, pair(n, b.Id))
		}
	}
	if len(met) == 0 {
		return -1, 0
	}
	slices.SortFunc(met, func(p impl.Pair, q impl.Pair) int { return cmp.Or(p.A-q.A, p.B-q.B) })
	return met[0].B, met[0].A
}

func TestP63ARayMeetsFirstWhatItMeetsFirst(t *testing.T) {
	r, met, missed := fixed(), 0, 0
	for _, w := range goodWorlds() {
		rays := badRays()
		for _, b := range w.Bodies {
			rays = append(rays, someRays(r, b.At, 2)...)
		}
		rays = append(rays, someRays(r, impl.Vec{}, 3)...)
		for _, x := range rays {
			id, n := impl.WorldRay(w, x)
			if want, at := firstMet(w, x); id != want || n != at {
				t.Errorf("WorldRay(%v, %v) = %d, %d, not %d, %d", w, x, id, n, want, at)
			}
			if id < 0 {
				missed++
			} else {
				met++
			}
		}
	}
	if met < 1000 || missed < 1000 {
		t.Errorf("%d were met, and %d missed", met, missed)
	}
}

func TestP63SomeRays(t *testing.T) {
	s := func(id int, x int) impl.Body { return impl.Body{Id: id, Shape: slab(64, 64), At: vec(x, 0)} }
	two := worldOf(s(3, 512), s(5, 256))
	for i, c := range []struct {
		w     impl.World
		x     impl.Ray
		id, n int
	}{
		{two, ray(0, 0, 1024, 0), 5, 48},
		{two, ray(768, 0, -1024, 0), 3, 48},
		{two, ray(256, 0, 1024, 0), 5, 0},
		{two, ray(400, 0, 1024, 0), 3, 12},
		{two, ray(0, 65, 1024, 0), -1, 0},
		{two, ray(0, 64, 1024, 0), 5, 48},
		// just as far as one, and 1 less far
		{two, ray(0, 0, 192, 0), 5, 256},
		{two, ray(0, 0, 191, 0), -1, 0},
		// two that are met as early: the lesser Id, wherever they are
		{worldOf(s(3, 256), s(5, 256)), ray(0, 0, 1024, 0), 3, 48},
		{worldOf(impl.Body{Id: 3, Shape: round(64), At: vec(256, 0)}, s(5, 256)), ray(0, 0, 1024, 0), 3, 48},
		{worldOf(s(3, 256), impl.Body{Id: 5, Shape: round(64), At: vec(256, 0)}), ray(0, 0, 1024, 0), 3, 48},
		{worldOf(s(0, 600), s(3, 256), s(5, 256)), ray(0, 0, 1024, 0), 3, 48},
		{worldOf(s(3, 0), s(5, 0)), ray(0, 0, 0, 9), 3, 0},
		// the number 0 as Id
		{worldOf(s(0, 256), s(1, 100)), ray(0, 0, 1024, 0), 1, 9},
		{worldOf(s(0, 256), s(1, 512)), ray(0, 0, 1024, 0), 0, 48},
		// no bodies, and rays that are not ok
		{worldOf(), ray(0, 0, 1024, 0), -1, 0},
		{two, ray(256, 0, 0, 0), -1, 0},
		{two, ray(256, 0, impl.FarMax+1, 0), -1, 0},
		{two, ray(0, -impl.FarMax-1, 0, impl.FarMax), -1, 0},
	} {
		if id, n := impl.WorldRay(c.w, c.x); id != c.id || n != c.n {
			t.Errorf("ray %d: %d at %d, not %d at %d", i, id, n, c.id, c.n)
		}
	}
}

func TestP61To64WorldsThatAreNotOk(t *testing.T) {
	far := impl.FarMax
	for _, w := range badWorlds() {
		if got := impl.WorldAt(w, vec(0, 0)); len(got) != 0 {
			t.Errorf("WorldAt(%v) = %v", w, got)
		}
		if got := impl.WorldIn(w, box(-far, -far, far, far)); len(got) != 0 {
			t.Errorf("WorldIn(%v) = %v", w, got)
		}
		if id, n := impl.WorldRay(w, ray(-500, 0, 1000, 0)); id != -1 || n != 0 {
			t.Errorf("WorldRay(%v) = %d, %d", w, id, n)
		}
		if got := impl.WorldSave(w); got != "" {
			t.Errorf("WorldSave(%v) = %q", w, got)
		}
		// nor is it read, if it is written all the same
		if got, ok := impl.WorldLoad(saveByWords(w)); ok || !noWorld(got) {
			t.Errorf("WorldLoad of %v = %v, %t", w, got, ok)
		}
	}
}

// bodyText, saveByWords: the lines of a body and of a world, be they ok or not.
func bodyText(b impl.Body) string {
	shape := fmt.Sprintf("round %d", b.Shape.Wide)
	if b.Shape.Kind != 1 {
		shape = fmt.Sprintf("box %d %d", b.Shape.Wide, b.Shape.High)
	}
	return fmt.Sprintf("body %d %s at %d %d drive %d %d %d %d %d %d", b.Id, shape, b.At.X, b.At.Y, b.Drive.X, b.Drive.Y, b.Mass, b.Bounce, b.Rub, b.Quiet)
}

func saveByWords(w impl.World) string {
	lines := []string{fmt.Sprintf("world %d %d", w.Tick, w.Pull)}
	for _, b := range w.Bodies {
		if b.Shape.Kind != 1 && b.Shape.Kind != 2 || b.Shape.Kind == 1 && b.Shape.High != 0 {
			b.Shape = round(-1)
		}
		lines = append(lines, bodyText(b))
	}
	for _, p := range w.Pairs {
		lines = append(lines, fmt.Sprintf("pair %d %d", p.A, p.B))
	}
	return strings.Join(lines, "\n") + "\n"
}

func TestP64AWorldIsReadBack(t *testing.T) {
	for _, w := range goodWorlds() {
		text := impl.WorldSave(w)
		if text != saveByWords(w) {
			t.Errorf("WorldSave(%v) = %q", w, text)
		}
		got, ok := impl.WorldLoad(text)
		if !ok || !sameWorld(got, w) {
			t.Errorf("WorldLoad(%q) = %v, %t, not %v", text, got, ok, w)
		}
		a, told := impl.WorldStep(w)
		b, also := impl.WorldStep(got)
		if !sameWorld(a, b) || !slices.Equal(told, also) {
			t.Errorf("%v steps to %v, and read back to %v", w, a, b)
		}
	}
	for _, b := range goodBodies() {
		w := worldOf(b)
		if got, ok := impl.WorldLoad(impl.WorldSave(w)); !ok || !sameWorld(got, w) {
			t.Errorf("%v is read back as %v, %t", w, got, ok)
		}
	}
}

// longText, longWorld: a world with all kinds of lines.
const longText = "world 99999 2560\n" +
	"body 0 box 25600 1 at -2560000 2560000 drive 0 0 0 256 0 0\n" +
	"body 7 round 256 at 10 -20 drive -20000000 20000000 1000 0 256 7\n" +
	"body 10 box 3 4 at 0 0 drive 0 0 1 0 0 8\n" +
	"body 999999999 round 25600 at 1 2 drive 3 4 5 6 7 0\n" +
	"pair 0 7\n" +
	"pair 0 999999999\n" +
	"pair 7 10\n"

func longWorld() impl.World {
	return impl.World{Tick: 99999, Pull: 2560, Bodies: []impl.Body{
		{Id: 0, Shape: slab(25600, 1), At: vec(-2560000, 2560000), Bounce: 256},
		{Id: 7, Shape: round(256), At: vec(10, -20), Drive: vec(-20000000, 20000000), Mass: 1000, Rub: 256, Quiet: 7},
		{Id: 10, Shape: slab(3, 4), Mass: 1, Quiet: 8},
		{Id: 999999999, Shape: round(25600), At: vec(1, 2), Drive: vec(3, 4), Mass: 5, Bounce: 6, Rub: 7},
	}, Pairs: []impl.Pair{pair(0, 7), pair(0, 999999999), pair(7, 10)}}
}

func TestP64TextsOfSomeWorlds(t *testing.T) {
	for text, w := range map[string]impl.World{
		"world 0 0\n":         {},
		"world 0 32\n":        impl.WorldNew(32),
		"world 100000 2560\n": {Tick: 100000, Pull: 2560},
		longText:              longWorld(),
	} {
		if got := impl.WorldSave(w); got != text {
			t.Errorf("WorldSave(%v) = %q", w, got)
		}
		if got, ok := impl.WorldLoad(text); !ok || !sameWorld(got, w) {
			t.Errorf("WorldLoad(%q) = %v, %t", text, got, ok)
		}
	}
}

func TestP64TextsThatAreNoWorlds(t *testing.T) {
	lines := strings.SplitAfter(longText, "\n")
	swapped := func(i int, j int) string {
		list := slices.Clone(lines)
		list[i], list[j] = list[j], list[i]
		return strings.Join(list, "")
	}
	list := []string{
		"", "\n", " ", "world", "world\n", "world 0\n", "world 0 0", "world 0 0 \n", " world 0 0\n", "world 0 0 0\n", "world  0 0\n", "world 0  0\n", "world 0 0\r\n",
		"world 0 00\n", "world 00 0\n", "world 01 0\n", "world 0 -0\n", "world -0 0\n", "world +1 0\n", "world - 0\n", "world 0 x\n", "World 0 0\n", "world\t0 0\n", "world 0 0\x00\n",
		"world -1 0\n", "world 0 -1\n", "world 100001 0\n", "world 0 2561\n", "world 1000000000 0\n", "world 99999999999999999999 0\n", "world 1000000001 1000000001\n",
		"world 0 0\n\n", "\nworld 0 0\n", "world 0 0\nworld 0 0\n", "world 1 0\nworld 0 0\n", "world 0 0\nsave\n", "world 0 0\nwhat\n", "world 0 0\npair 0 1\n", "world 0 0\nbody 1\n", "world 0 0\nbody\n", "world 0 0\npair\n",
		"body 1 round 5 at 0 0 drive 0 0 1 0 0 0\n", "body 1 round 5 at 0 0 drive 0 0 1 0 0 0\nworld 0 0\n",
		strings.TrimSuffix(longText, "\n"), longText + "\n", longText + "pair 7 10\n", longText + longText, longText + "x", longText + " ",
		// out of order
		swapped(0, 1), swapped(1, 2), swapped(3, 4), swapped(4, 5), swapped(5, 6), swapped(6, 7),
		strings.Replace(longText, "pair 7 10", "pair 10 7", 1), strings.Replace(longText, "pair 7 10", "pair 7 11", 1), strings.Replace(longText, "pair 7 10", "pair 7 7", 1),
		strings.Replace(longText, "pair 7 10", "pair 0 999999999", 1),
		strings.Replace(longText, "body 7 ", "body 10 ", 1), strings.Replace(longText, "body 7 ", "body 07 ", 1), strings.Replace(longText, "body 7 ", "body -7 ", 1),
		// other words
		strings.Replace(longText, "round", "ring", 1), strings.Replace(longText, "round 256", "box 256", 1), strings.Replace(longText, "box 25600 1", "round 25600 1", 1),
		strings.Replace(longText, "box 25600 1", "round 25600", 1) + "x",
		strings.Replace(longText, "at", "by", 1), strings.Replace(longText, "drive", "push", 1),
		strings.Replace(longText, "drive -20000000 20000000", "drive -20000001 20000000", 1), strings.Replace(longText, "2560000 drive", "2560001 drive", 1),
	}
	for i := range lines[:len(lines)-1] {
		list = append(list, strings.Join(slices.Insert(slices.Clone(lines), i, lines[i]), ""))
		list = append(list, strings.Join(slices.Insert(slices.Clone(lines), i, "\n"), ""))
	}
	for _, text := range list {
		if got, ok := impl.WorldLoad(text); ok || !noWorld(got) {
			t.Errorf("WorldLoad(%q) = %v, %t", text, got, ok)
		}
	}
	// One body too many, and just as many as there may be.
	full := worldOf(balls(impl.BodyMax + 1)...)
	if got, ok := impl.WorldLoad(saveByWords(full)); ok || !noWorld(got) {
		t.Errorf("one too many: %v, %t", got, ok)
	}
	full.Bodies = full.Bodies[:impl.BodyMax]
	if got, ok := impl.WorldLoad(saveByWords(full)); !ok || !sameWorld(got, full) {
		t.Errorf("as many as there may be: %v, %t", got, ok)
	}
}

func TestP64WhatIsReadIsWritten(t *testing.T) {
	check := func(text string) int {
		w, ok := impl.WorldLoad(text)
		if ok && (impl.WorldSave(w) != text || saveByWords(w) != text || !impl.WorldOk(w)) || !ok && !noWorld(w) {
			t.Errorf("WorldLoad(%q) = %v, %t", text, w, ok)
		}
		if ok {
			return 1
		}
		return 0
	}
	read := 0
	for i := range len(longText) {
		read += check(longText[:i]) + check(longText[i:]) + check(longText[:i]+longText[i+1:])
		for _, c := range "0159- \nabx\x00\xff" {
			read += check(longText[:i]+string(c)+longText[i:]) + check(longText[:i]+string(c)+longText[i+1:])
		}
	}
	if read < 100 {
		t.Errorf("only %d were read", read)
	}
}

// numberByWords: a word of a session as a number.
func numberByWords(word string) int {
	if !regexp.MustCompile(`\A(0|-?[1-9][0-9]{0,8})\z`).MatchString(word) {
		return 1000000001
	}
	n, _ := strconv.Atoi(word)
	return n
}

// bodyByWords: the body of a body's line, whose words were found to be as many as they must be.
func bodyByWords(words []string) (impl.Body, bool) {
	s, rest := round(numberByWords(words[3])), words[4:]
	if words[2] == "box" {
		s, rest = slab(numberByWords(words[3]), numberByWords(words[4])), words[5:]
	}
	if rest[0] != "at" || rest[3] != "drive" {
		return impl.Body{}, false
	}
	var n []int
	for _, word := range rest {
		n = append(n, numberByWords(word))
	}
	return impl.Body{Id: numberByWords(words[1]), Shape: s, At: vec(n[1], n[2]), Drive: vec(n[4], n[5]), Mass: n[6], Bounce: n[7], Rub: n[8], Quiet: n[9]}, true
}

// lineByWords: the world behind a line of a session, and what is answered.
func lineByWords(w impl.World, line string) (impl.World, string) {
	words := strings.Split(line, " ")
	code, n := -1, []int{}
	for _, word := range words {
		n = append(n, numberByWords(word))
	}
	switch first := words[0]; {
	case first == "body" && (len(words) == 14 && words[2] == "round" || len(words) == 15 && words[2] == "box"):
		if b, ok := bodyByWords(words); ok {
			w, code = putByWords(w, b)
		}
	case first == "gone" && len(words) == 2:
		w, code = goneByWords(w, n[1])
	case first == "push" && len(words) == 4:
		w, code = pushByNumber(w, n[1], vec(n[2], n[3]))
	case first == "ray" && len(words) == 5:
		id, part := firstMet(w, ray(n[1], n[2], n[3], n[4]))
		return w, fmt.Sprintf("meets %d at %d\n", id, part)
	case first == "step" && len(words) == 2 && n[1] >= 1 && n[1] <= 60:
		return stepsByWords(w, n[1])
	case line == "save":
		return w, saveByWords(w)
	}
	switch code {
	case -1:
		return w, "what\n"
	case 0:
		return w, "ok\n"
	}
	return w, fmt.Sprintf("no %d\n", code)
}

// stepsByWords: the world behind so many steps, and what is answered.
func stepsByWords(w impl.World, n int) (impl.World, string) {
	said := ""
	for range n {
		next, events := worldStepByWords(w)
		for _, e := range events {
			said += fmt.Sprintf("%s %d %d\n", map[bool]string{true: "begins", false: "ends"}[e.Begins], e.Pair.A, e.Pair.B)
		}
		w = next
	}
	return w, said + fmt.Sprintf("tick %d\n", w.Tick)
}

// sessionByWords: what Session must answer.
func sessionByWords(lines []string) string {
	w, said, answer := impl.World{Pull: 32}, "", ""
	for _, line := range lines[:min(40, len(lines))] {
		w, answer = lineByWords(w, line)
		said += answer
	}
	return said
}

// checkSession: that the lines are answered so, by the document's words and by the program.
func checkSession(t *testing.T, lines []string, want string) {
	t.Helper()
	if got := sessionByWords(lines); got != want {
		t.Errorf("%q: by the words %q, not %q", lines, got, want)
	}
	if got := impl.Session(lines); got != want {
		t.Errorf("%q: %q, not %q", lines, got, want)
	}
}

func TestP65TheExampleOfTheDocument(t *testing.T) {
	lines := []string{
		"body 1 box 2000 200 at 0 -200 drive 0 0 0 0 128 0",
		"body 2 round 256 at 0 300 drive 0 0 2 0 128 0",
		"body 3 box 128 128 at 1000 130 drive -600 0 3 0 64 0",
		"body 3 round 1 at 0 0 drive 0 0 1 0 0 0",
		"step 1", "step 20", "step 60", "save", "ray 0 1000 0 -4000", "push 2 400 0", "gone 9", "gone 1", "step 3", "save", "what",
	}
	answers := []string{
		"ok\n", "ok\n", "ok\n", "no 2\n", "begins 1 3\ntick 1\n", "begins 1 2\nbegins 2 3\ntick 21\n", "tick 81\n",
		"world 81 32\nbody 1 box 2000 200 at 0 -200 drive 0 0 0 0 128 0\nbody 2 round 256 at -484 204 drive 0 0 2 0 128 8\nbody 3 box 128 128 at -171 98 drive 0 0 3 0 64 8\npair 1 2\npair 1 3\npair 2 3\n",
		"meets 1 at 64\n", "ok\n", "no 4\n", "ok\n", "tick 84\n",
		"world 84 32\nbody 2 round 256 at -244 12 drive 160 -192 2 0 128 0\nbody 3 box 128 128 at 69 -94 drive 240 -288 3 0 64 0\npair 2 3\n",
		"what\n",
	}
	for i := range lines {
		checkSession(t, lines[:i+1], strings.Join(answers[:i+1], ""))
	}
}

const someBody = "body 5 round 50 at 0 0 drive 0 0 2 0 0 8"

func TestP65LinesAndTheirAnswers(t *testing.T) {
	// Each line behind one body's; that is answered by ok.
	for _, c := range [][2]string{
		{"", "what"}, {" ", "what"}, {"what", "what"}, {"Save", "what"}, {"save", ""}, {"save ", "what"}, {" save", "what"}, {"save 1", "what"}, {"save\n", "what"},
		{"world 0 32", "what"}, {"pair 1 2", "what"}, {"tick 1", "what"}, {"ok", "what"},
		{"gone 5", "ok"}, {"gone 6", "no 4"}, {"gone", "what"}, {"gone 5 5", "what"}, {"gone  5", "what"}, {"gone 5 ", "what"}, {" gone 5", "what"}, {"gone five", "no 4"},
		{"gone 05", "no 4"}, {"gone +5", "no 4"}, {"gone 5.0", "no 4"}, {"gone ", "no 4"}, {"gone -", "no 4"}, {"gone 5\n", "no 4"}, {"gone\t5", "what"}, {"Gone 5", "what"},
		{"gone 0x5", "no 4"}, {"gone 1000000001", "no 4"},
		{"push 5 1 2", "ok"}, {"push 5 0 0", "ok"}, {"push 5 20000000 -20000000", "ok"}, {"push 5 20000001 0", "no 1"}, {"push 5 0 -20000001", "no 1"}, {"push 6 1 2", "no 4"},
		{"push 6 20000001 0", "no 1"}, {"push five 1 2", "no 4"}, {"push 5 one 2", "no 1"}, {"push 5 1 two", "no 1"}, {"push 5 -0 0", "no 1"}, {"push 5 - 0", "no 1"},
		{"push 5  0", "no 1"}, {"push 5 0 ", "no 1"}, {"push 5 01 0", "no 1"}, {"push 5 0 00", "no 1"}, {"push 5 +1 0", "no 1"}, {"push 5 1", "what"}, {"push 5", "what"},
		{"push", "what"}, {"push 5 1 2 3", "what"}, {"push 5 1 2 ", "what"}, {"push 5 -1 -2", "ok"}, {"push 5 --1 2", "no 1"}, {"push  1 2", "no 4"},
		{"step 1", "tick 1"}, {"step 60", "tick 60"}, {"step 61", "what"}, {"step 0", "what"}, {"step -1", "what"}, {"step", "what"}, {"step ", "what"}, {"step 1 1", "what"},
		{"step one", "what"}, {"step 01", "what"}, {"step 1 ", "what"}, {"step  1", "what"}, {"step 1000000001", "what"}, {"step 9999999999999999999999", "what"},
		{"steps 1", "what"},
		{"ray -128 0 256 0", "meets 5 at 78"}, {"ray 0 0 0 1", "meets 5 at 0"}, {"ray 0 51 1 0", "meets -1 at 0"}, {"ray 0 0 0 0", "meets -1 at 0"}, {"ray 0 0 1", "what"},
		{"ray 0 0", "what"}, {"ray", "what"}, {"ray 0 0 0 1 0", "what"}, {"ray 0 0 0 1 ", "what"}, {"ray x 0 0 1", "meets -1 at 0"}, {"ray 0 0 0 01", "meets -1 at 0"},
		{"ray 0 -0 0 1", "meets -1 at 0"}, {"ray  0 0 1", "meets -1 at 0"}, {"ray 0 0 2560000 -2560000", "meets 5 at 0"}, {"ray 0 0 2560001 0", "meets -1 at 0"},
		{"ray 0 2560001 0 -1", "meets -1 at 0"},
	} {
		want := "ok\n" + c[1] + "\n"
		if c[0] == "save" {
			want = "ok\nworld 0 32\n" + someBody + "\n"
		}
		checkSession(t, []string{someBody, c[0]}, want)
	}
}

func TestP65BodyLines(t *testing.T) {
	for _, c := range [][2]string{
		{someBody, "ok"},
		{"body 0 box 25600 1 at -2560000 2560000 drive 0 0 0 256 0 0", "ok"},
		{"body 999999999 round 1 at 1 2 drive -20000000 20000000 1000 6 7 7", "ok"},
		// numbers past their limits
		{"body 1000000000 round 1 at 1 2 drive 3 4 5 6 7 0", "no 1"}, {"body -1 round 1 at 1 2 drive 3 4 5 6 7 0", "no 1"}, {"body 1 round 0 at 1 2 drive 3 4 5 6 7 0", "no 1"},
		{"body 1 round 25601 at 1 2 drive 3 4 5 6 7 0", "no 1"},
		{"body 1 box 5 0 at 1 2 drive 3 4 5 6 7 0", "no 1"}, {"body 1 box 5 25601 at 1 2 drive 3 4 5 6 7 0", "no 1"}, {"body 1 round 5 at 2560001 2 drive 3 4 5 6 7 0", "no 1"},
		{"body 1 round 5 at 1 -2560001 drive 3 4 5 6 7 0", "no 1"},
		{"body 1 round 5 at 1 2 drive 20000001 4 5 6 7 0", "no 1"}, {"body 1 round 5 at 1 2 drive 3 -20000001 5 6 7 0", "no 1"},
		{"body 1 round 5 at 1 2 drive 3 4 1001 6 7 0", "no 1"}, {"body 1 round 5 at 1 2 drive 3 4 5 257 7 0", "no 1"},
		{"body 1 round 5 at 1 2 drive 3 4 5 6 257 0", "no 1"}, {"body 1 round 5 at 1 2 drive 3 4 5 6 7 9", "no 1"}, {"body 1 round 5 at 1 2 drive 3 4 5 6 7 8", "no 1"}, {"body 1 round 5 at 1 2 drive 3 4 0 6 7 0", "no 1"},
		// words that are no numbers, in each place
		{"body x round 5 at 1 2 drive 3 4 5 6 7 0", "no 1"}, {"body 1 round x at 1 2 drive 3 4 5 6 7 0", "no 1"}, {"body 1 box x 5 at 1 2 drive 3 4 5 6 7 0", "no 1"}, {"body 1 box 5 x at 1 2 drive 3 4 5 6 7 0", "no 1"},
		{"body 1 round 5 at x 2 drive 3 4 5 6 7 0", "no 1"}, {"body 1 round 5 at 1 x drive 3 4 5 6 7 0", "no 1"}, {"body 1 round 5 at 1 2 drive x 4 5 6 7 0", "no 1"}, {"body 1 round 5 at 1 2 drive 3 x 5 6 7 0", "no 1"},
		{"body 1 round 5 at 1 2 drive 3 4 x 6 7 0", "no 1"}, {"body 1 round 5 at 1 2 drive 3 4 5 x 7 0", "no 1"}, {"body 1 round 5 at 1 2 drive 3 4 5 6 x 0", "no 1"}, {"body 1 round 5 at 1 2 drive 3 4 5 6 7 x", "no 1"},
		{"body 1 round 5 at 1 2 drive 3 4 5 6 7 ", "no 1"}, {"body  round 5 at 1 2 drive 3 4 5 6 7 0", "no 1"}, {"body 01 round 5 at 1 2 drive 3 4 5 6 7 0", "no 1"},
		{"body 1 round 5 at -0 2 drive 3 4 5 6 7 0", "no 1"}, {"body 1 round 5 at 1 2 drive - 4 5 6 7 0", "no 1"},
		// a word too few, and one too many
		{"body", "what"}, {"body 1", "what"}, {"body 1 round", "what"}, {"body 1 round 5", "what"}, {"body 1 round 5 at 1 2", "what"},
		{"body 1 round 5 at 1 2 drive 3 4 5 6 7", "what"}, {"body 1 round 5 at 1 2 drive 3 4 5 6 7 0 0", "what"}, {"body 1 round 5 at 1 2 drive 3 4 5 6 7 0 ", "what"},
		{"body 1 round 5 5 at 1 2 drive 3 4 5 6 7 0", "what"}, {"body 1 box 5 at 1 2 drive 3 4 5 6 7 0", "what"}, {"body 1 box 5 5 5 at 1 2 drive 3 4 5 6 7 0", "what"},
		{"body 1 box 5 5 at 1 2 drive 3 4 5 6 7", "what"}, {"body 1 box 5 5 at 1 2 drive 3 4 5 6 7 0 0", "what"},
		{"body round 5 at 1 2 drive 3 4 5 6 7 0", "what"}, {"body 1  round 5 at 1 2 drive 3 4 5 6 7 0", "what"}, {" body 1 round 5 at 1 2 drive 3 4 5 6 7 0", "what"},
		// other words
		{"body 1 ring 5 at 1 2 drive 3 4 5 6 7 0", "what"}, {"body 1 Round 5 at 1 2 drive 3 4 5 6 7 0", "what"}, {"body 1 1 5 at 1 2 drive 3 4 5 6 7 0", "what"},
		{"body 1 round 5 by 1 2 drive 3 4 5 6 7 0", "what"}, {"body 1 round 5 at 1 2 push 3 4 5 6 7 0", "what"}, {"body 1 round 5 drive 1 2 at 3 4 5 6 7 0", "what"},
		{"Body 1 round 5 at 1 2 drive 3 4 5 6 7 0", "what"},
	} {
		want := c[1] + "\nworld 0 32\n"
		if c[1] == "ok" {
			want += c[0] + "\n"
		}
		checkSession(t, []string{c[0], "save"}, want)
	}
}

func TestP65NumbersOfNineFiguresAndOfTen(t *testing.T) {
	far := "body 999999999 round 5 at 0 0 drive 0 0 1 0 0 0"
	checkSession(t, []string{far, "gone 9999999990", "gone 1000000000", "gone 999999999", "gone 999999999"}, "ok\nno 4\nno 4\nok\nno 4\n")
	checkSession(t, []string{far, "push 999999999 -999999999 0", "push 999999999 0 1000000000", "push -999999999 0 0"}, "ok\nno 1\nno 1\nno 4\n")
}

func TestP65CodesOfASession(t *testing.T) {
	var lines []string
	for i := range 13 {
		lines = append(lines, fmt.Sprintf("body %d round 5 at %d 0 drive 0 0 1 0 0 0", i, 100*i))
	}
	lines = append(lines, "body 3 round 5 at 0 0 drive 0 0 1 0 0 0", "body 3 round 0 at 0 0 drive 0 0 1 0 0 0", "gone 3", "body 20 round 5 at 0 0 drive 0 0 1 0 0 0", "push 3 0 0")
	checkSession(t, lines, strings.Repeat("ok\n", 12)+"no 3\nno 2\nno 1\nok\nok\nno 4\n")
}

func TestP65EventsOfSeveralSteps(t *testing.T) {
	checkSession(t, []string{
		"body 1 box 50 50 at 0 0 drive 0 0 0 256 0 0",
		"body 2 round 50 at 0 160 drive 0 -20 1 256 0 0",
		"body 3 round 50 at 400 0 drive 0 0 0 0 0 0",
		"body 4 round 50 at 500 0 drive 0 0 1 0 0 0",
		"step 1", "step 1", "step 1", "step 8",
	}, "ok\nok\nok\nok\ntick 1\nbegins 1 2\ntick 2\nends 1 2\ntick 3\nbegins 1 2\nends 1 2\ntick 11\n")
	// In one step one ends, and another one begins.
	checkSession(t, []string{
		"body 1 round 50 at 0 0 drive 0 0 0 0 0 0",
		"body 2 round 50 at 300 0 drive 0 0 0 0 0 0",
		"body 3 round 10 at 60 0 drive 0 0 1 0 0 8",
		"step 1", "push 3 180 32", "step 1",
	}, "ok\nok\nok\nbegins 1 3\ntick 1\nok\nends 1 3\nbegins 2 3\ntick 2\n")
}

func TestP65HowManyLines(t *testing.T) {
	checkSession(t, nil, "")
	checkSession(t, []string{}, "")
	checkSession(t, []string{""}, "what\n")
	forty := slices.Repeat([]string{"step 60"}, 40)
	want := ""
	for i := range forty {
		want += fmt.Sprintf("tick %d\n", 60*(i+1))
	}
	checkSession(t, forty[:39], want[:len(want)-len("tick 2400\n")])
	checkSession(t, forty, want)
	for _, more := range []string{"save", "step 1", "what", ""} {
		checkSession(t, append(slices.Clone(forty), more), want)
		checkSession(t, append(slices.Clone(forty), more, more, more), want)
	}
}

// anyWord, anyLine: of a session, right and wrong.
func anyWord(r *rand.Rand) string {
	words := []string{"0", "1", "2", "3", "60", "61", "-1", "-0", "-", "", "x", "007", "20000000", "20000001", "999999999", "1000000000", "-999999999", "at", "round", "save", "99999999999999999999"}
	if r.IntN(3) > 0 {
		return strconv.Itoa(r.IntN(1200) - 600)
	}
	return words[r.IntN(len(words))]
}

func anyLine(r *rand.Rand) string {
	small := func() string { return strconv.Itoa(r.IntN(14)) }
	lines := []string{
		bodyText(anyBody(r, r.IntN(14), 1000, 400)), bodyText(anyBody(r, r.IntN(14), 1000, 400)), bodyText(anyBody(r, r.IntN(14), 1000, 400)),
		"gone " + small(), "push " + small() + " " + anyWord(r) + " " + anyWord(r),
		"step " + small(), "step " + anyWord(r), "save", "what",
		fmt.Sprintf("ray %d %d %d %d", r.IntN(2000)-1000, r.IntN(2000)-1000, r.IntN(4000)-2000, r.IntN(4000)-2000),
		"ray " + anyWord(r) + " " + anyWord(r) + " " + anyWord(r) + " " + anyWord(r),
	}
	words := strings.Split(lines[r.IntN(len(lines))], " ")
	at := r.IntN(len(words))
	switch r.IntN(12) {
	case 0:
		words[at] = anyWord(r)
	case 1:
		words = slices.Delete(words, at, at+1)
	case 2:
		words = slices.Insert(words, at, anyWord(r))
	}
	return strings.Join(words, " ")
}

func TestP65SessionsAreAsTheDocumentSays(t *testing.T) {
	r, kinds := fixed(), map[string]int{}
	for range 150 {
		var lines []string
		for range r.IntN(45) {
			lines = append(lines, anyLine(r))
		}
		got, want := impl.Session(lines), sessionByWords(lines)
		if got != want {
			t.Errorf("Session(%q) = %q, not %q", lines, got, want)
		}
		for _, answer := range strings.Split(want, "\n") {
			kinds[strings.TrimRight(answer, "-0123456789")]++
		}
		// each line is answered: with a line more the answer is longer, and begins as it did
		for i := 0; i < min(40, len(lines)); i += 10 {
			first, more := impl.Session(lines[:i]), impl.Session(lines[:i+1])
			if !strings.HasPrefix(more, first) || len(more) <= len(first) || !strings.HasSuffix(more, "\n") {
				t.Errorf("Session(%q) has no answer for line %d", lines, i+1)
			}
		}
	}
	for _, kind := range []string{"ok", "no ", "what", "tick ", "world 0 "} {
		if kinds[kind] < 10 {
			t.Errorf("%q was answered only %d times", kind, kinds[kind])
		}
	}
}

// spareWorld: the same world, with spare room behind its lists that holds something.
func spareWorld(w impl.World) impl.World {
	w.Bodies, w.Pairs = spare(w.Bodies, plain()), spare(w.Pairs, pair(7, 9))
	return w
}

// wholeWorld: a copy of all of a world, spare room with it.
func wholeWorld(w impl.World) impl.World {
	w.Bodies, w.Pairs = slices.Clone(whole(w.Bodies)), slices.Clone(whole(w.Pairs))
	return w
}

// checkOwn: that the answer has memory of its own: what is written into it is not found in what was given.
func checkOwn(t *testing.T, name string, given impl.World, answer impl.World, events []impl.Event) {
	t.Helper()
	before := wholeWorld(given)
	for i := range whole(answer.Bodies) {
		whole(answer.Bodies)[i] = impl.Body{Id: -5}
	}
	for i := range whole(answer.Pairs) {
		whole(answer.Pairs)[i] = pair(-5, -6)
	}
	for i := range whole(events) {
		whole(events)[i] = ends(-7, -8)
	}
	if !sameWorld(wholeWorld(given), before) {
		t.Errorf("%s shares memory with %v", name, before)
	}
}

func TestP54To64ArgumentsAreLeftAndNotShared(t *testing.T) {
	for _, w := range append(goodWorlds(), badWorlds()...) {
		given := spareWorld(w)
		before := wholeWorld(given)
		ids := []int{4001}
		for _, b := range w.Bodies {
			ids = append(ids, b.Id)
		}
		for _, id := range ids {
			put, _ := impl.WorldPut(given, mover(id, 0))
			gone, _ := impl.WorldGone(given, id)
			pushed, _ := impl.WorldPush(given, id, vec(9, 9))
			bad, _ := impl.WorldPush(given, id, vec(math.MaxInt, 9))
			checkOwn(t, "WorldPut", given, put, nil)
			checkOwn(t, "WorldGone", given, gone, nil)
			checkOwn(t, "WorldPush", given, pushed, nil)
			checkOwn(t, "WorldPush", given, bad, nil)
		}
		next, events := impl.WorldStep(given)
		checkOwn(t, "WorldStep", given, next, events)
		impl.WorldOk(given)
		impl.WorldAt(given, vec(0, 0))
		impl.WorldIn(given, box(-900, -900, 900, 900))
		impl.WorldRay(given, ray(-500, 0, 1000, 0))
		impl.WorldSave(given)
		if !sameWorld(wholeWorld(given), before) {
			t.Errorf("something was written into %v", before)
		}
	}
}

func TestP54To65AnswersAreNewEachTime(t *testing.T) {
	for _, w := range goodWorlds() {
		next, events := impl.WorldStep(w)
		ids, in := impl.WorldAt(w, vec(0, 0)), impl.WorldIn(w, box(-900, -900, 900, 900))
		read, _ := impl.WorldLoad(impl.WorldSave(w))
		wantNext, wantEvents, wantIds, wantIn := wholeWorld(next), slices.Clone(events), slices.Clone(ids), slices.Clone(in)
		wantNext.Bodies, wantNext.Pairs = wantNext.Bodies[:len(next.Bodies)], wantNext.Pairs[:len(next.Pairs)]
		clear(whole(events))
		clear(whole(ids))
		clear(whole(in))
		clear(whole(next.Bodies))
		clear(whole(next.Pairs))
		clear(whole(read.Bodies))
		clear(whole(read.Pairs))
		checkStepOf(t, "again", w, wantNext, wantEvents...)
		if !slices.Equal(impl.WorldAt(w, vec(0, 0)), wantIds) || !slices.Equal(impl.WorldIn(w, box(-900, -900, 900, 900)), wantIn) {
			t.Errorf("an answer of %v was kept", w)
		}
		if again, ok := impl.WorldLoad(impl.WorldSave(w)); !ok || !sameWorld(again, w) {
			t.Errorf("%v was kept", w)
		}
	}
	lines := spare([]string{someBody, "step 3", "save"}, "what")
	before := slices.Clone(whole(lines))
	if first := impl.Session(lines); first != impl.Session(lines) || !slices.Equal(whole(lines), before) {
		t.Errorf("Session(%q) = %q, and then another answer", lines, first)
	}
}
