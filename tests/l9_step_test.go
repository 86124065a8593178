package tests

import (
	"math"
	"math/rand/v2"
	"slices"
	"testing"

	"loop.example/parquetry/impl"
)

// takesPart: whether a body is neither fixed nor asleep.
func takesPart(b impl.Body) bool {
	return b.Mass > 0 && b.Quiet < 8
}

// awakeByGoing: of each body whether it is of a group of which one does not sleep.
func awakeByGoing(list []impl.Body) []bool {
	groups, awake := groupsByGoing(list), make([]bool, len(list))
	for i := range list {
		for j, b := range list {
			if groups[i] >= 0 && groups[i] == groups[j] && takesPart(b) {
				awake[i] = true
			}
		}
	}
	return awake
}

// stepByWords: what Step must answer of what is ok, as the document says it.
func stepByWords(list []impl.Body, pull int) []impl.Body {
	groups, awake, contacts := groupsByGoing(list), awakeByGoing(list), []impl.Contact{}
	list = slices.Clone(list)
	quiet := make([]int, len(list))
	for i := range list {
		if awake[i] && list[i].Quiet == 8 {
			list[i].Quiet = 0
		}
		quiet[i] = list[i].Quiet
	}
	for _, k := range contactsByLooking(list) {
		if takesPart(list[k.A]) || takesPart(list[k.B]) {
			contacts = append(contacts, k)
		}
	}
	for i, b := range list {
		if takesPart(b) {
			list[i].Drive.Y = max(b.Drive.Y-pull*b.Mass, -impl.DriveMax)
		}
	}
	list = pushAllByWords(list, contacts)
	for i, b := range list {
		if takesPart(b) {
			list[i] = movedBy(b, speedOf(b))
		}
	}
	list = apartByWords(list, contacts)
	for i, b := range list {
		if !takesPart(b) {
			continue
		}
		list[i].Quiet = 0
		if v := speedOf(b); max(distance(v.X, 0), distance(v.Y, 0)) <= 8 {
			list[i].Quiet = min(quiet[i]+1, 7)
		}
	}
	return restByWords(list, groups, awake)
}

// restByWords: the last part of a step.
func restByWords(list []impl.Body, groups []int, awake []bool) []impl.Body {
	rested := slices.Clone(list)
	for i := range list {
		all := awake[i]
		for j, b := range list {
			if groups[j] == groups[i] && b.Quiet != 7 {
				all = false
			}
		}
		if all {
			rested[i] = asleep(list[i])
		}
	}
	return rested
}

// calm: the bodies about as slow as what is quiet, and for about as long as what falls asleep.
func calm(r *rand.Rand, list []impl.Body) []impl.Body {
	list = slices.Clone(list)
	for i, b := range list {
		if b.Mass == 0 {
			continue
		}
		slow := b.Mass * (impl.QuietWay + r.IntN(2))
		list[i].Drive = vec(r.IntN(2*slow+1)-slow, r.IntN(2*slow+1)-slow)
		list[i].Quiet = impl.QuietMax - 1 - r.IntN(2)
		if r.IntN(5) == 0 {
			list[i] = asleep(list[i])
		}
	}
	return list
}

// courses: bodies that are ok, many of them touching, some of them quiet, some still.
func courses() [][]impl.Body {
	list, r := scenes(), fixed()
	for _, bodies := range scenes() {
		still := slices.Clone(bodies)
		for i, b := range still {
			if b.Mass > 0 {
				still[i] = asleep(b)
			}
		}
		list = append(list, calm(r, bodies), calm(r, bodies), still)
	}
	return list
}

// somePulls, badPulls, badCounts: at each limit and within, and past it.
func somePulls() []int {
	return []int{0, 1, 32, impl.PullMax - 1, impl.PullMax}
}

func badPulls() []int {
	return []int{-1, impl.PullMax + 1, math.MinInt, math.MaxInt}
}

func badCounts() []int {
	return []int{-1, 61, -60, math.MinInt, math.MaxInt}
}

// at: a round body that can move, driven and quiet so.
func at(id int, place impl.Vec, mass int, drive impl.Vec, quiet int) impl.Body {
	return impl.Body{Id: id, Shape: round(50), At: place, Drive: drive, Mass: mass, Quiet: quiet}
}

// checkStep: that the bodies are these behind a step, by the document's words and by the program.
func checkStep(t *testing.T, name string, list []impl.Body, pull int, want ...impl.Body) {
	t.Helper()
	if got := stepByWords(list, pull); !slices.Equal(got, want) {
		t.Errorf("%s: by the words %v, not %v", name, got, want)
	}
	if got := impl.Step(list, pull); !slices.Equal(got, want) {
		t.Errorf("%s: %v, not %v", name, got, want)
	}
}

func TestP45To50StepsAreAsTheDocumentSays(t *testing.T) {
	if impl.PullMax != 2560 {
		t.Error("limits")
	}
	slept, woken := 0, 0
	for _, list := range courses() {
		for _, pull := range []int{0, 32, impl.PullMax} {
			got, want := impl.Step(list, pull), stepByWords(list, pull)
			if !slices.Equal(got, want) {
				t.Errorf("Step(%v, %d) = %v, not %v", list, pull, got, want)
			}
			if !impl.BodiesOk(got) {
				t.Errorf("Step(%v, %d) = %v is not ok", list, pull, got)
			}
			for i, b := range want {
				if impl.BodySleeps(b) && !impl.BodySleeps(list[i]) {
					slept++
				}
				if impl.BodySleeps(list[i]) && !impl.BodySleeps(b) {
					woken++
				}
			}
		}
	}
	if slept < 100 || woken < 100 {
		t.Errorf("only %d fell asleep, and %d woke", slept, woken)
	}
}

func TestP45To50TheExampleOfTheDocument(t *testing.T) {
	list := []impl.Body{
		{Id: 1, Shape: slab(2000, 200), At: vec(0, -200), Rub: 128},
		{Id: 2, Shape: round(256), At: vec(0, 300), Mass: 2, Rub: 128},
		{Id: 3, Shape: slab(128, 128), At: vec(1000, 130), Drive: vec(-600, 0), Mass: 3, Rub: 64},
	}
	check := func(steps int, pairs ...impl.Pair) {
		t.Helper()
		list = impl.Steps(list, 32, steps)
		if got := impl.StepPairs(list); !slices.Equal(got, pairs) {
			t.Fatalf("StepPairs = %v, not %v", got, pairs)
		}
	}
	check(1, impl.Pair{A: 1, B: 3})
	check(20, impl.Pair{A: 1, B: 2}, impl.Pair{A: 1, B: 3}, impl.Pair{A: 2, B: 3})
	check(60, impl.Pair{A: 1, B: 2}, impl.Pair{A: 1, B: 3}, impl.Pair{A: 2, B: 3})
	if !impl.Still(list) || list[1].At != vec(-484, 204) || list[2].At != vec(-171, 98) {
		t.Errorf("behind 81 steps: %v", list)
	}
	list = []impl.Body{impl.BodyPush(list[1], vec(400, 0)), list[2]}
	check(3, impl.Pair{A: 2, B: 3})
	if list[0].At != vec(-244, 12) || list[0].Drive != vec(160, -192) || list[1].At != vec(69, -94) || list[1].Drive != vec(240, -288) {
		t.Errorf("behind 84 steps: %v", list)
	}
}

func TestP45GroupsDoNotMoveEachOther(t *testing.T) {
	several := 0
	for _, list := range courses() {
		for _, pull := range []int{0, 32, impl.PullMax} {
			all := impl.Step(list, pull)
			groups := countOf(groupsByGoing(list))
			if groups > 1 {
				several++
			}
			for group := range groups {
				part := impl.GroupOf(list, group)
				got := impl.Step(part, pull)
				for i, b := range got {
					if at := slices.IndexFunc(all, func(x impl.Body) bool { return x.Id == b.Id }); at < 0 || all[at] != b {
						t.Errorf("Step of the group %v = %v at %d, and of all %v", part, got, i, all)
					}
				}
				if len(got) != len(part) {
					t.Errorf("Step(%v) = %v", part, got)
				}
			}
		}
	}
	if several < 1000 {
		t.Errorf("only %d with several groups", several)
	}
}

func TestP45WhatIsFixedBetweenTwoPassesNothingOn(t *testing.T) {
	wall := impl.Body{Id: 2, Shape: slab(10, 100), At: vec(60, 0)}
	fast := at(1, vec(0, 0), 2, vec(4000, 0), 3)
	beside := at(3, vec(120, 0), 2, vec(0, 0), 3)
	checkStep(t, "awake", []impl.Body{fast, wall, beside}, 0,
		at(1, vec(0, 0), 2, vec(0, 0), 4), wall, at(3, vec(120, 0), 2, vec(0, 0), 4))
	checkStep(t, "asleep", []impl.Body{fast, wall, asleep(beside)}, 0,
		at(1, vec(0, 0), 2, vec(0, 0), 4), wall, asleep(beside))
	fast.Quiet = 7
	checkStep(t, "one falls asleep", []impl.Body{fast, wall, beside}, 0,
		at(1, vec(0, 0), 2, vec(0, 0), 8), wall, at(3, vec(120, 0), 2, vec(0, 0), 4))
}

func TestP46WhatIsFixedStaysAndMuchOfAll(t *testing.T) {
	for _, list := range courses() {
		for _, pull := range []int{0, impl.PullMax} {
			got := impl.Steps(list, pull, 3)
			if len(got) != len(list) {
				t.Fatalf("Steps(%v) = %v", list, got)
			}
			for i, b := range list {
				want := changed(b, func(b *impl.Body) { b.At, b.Drive, b.Quiet = got[i].At, got[i].Drive, got[i].Quiet })
				if got[i] != want || b.Mass == 0 && got[i] != b {
					t.Errorf("%v of %v is %v", b, list, got[i])
				}
			}
		}
	}
	floor := rigid(mover(1, 0))
	checkStep(t, "fixed and deep in another one", []impl.Body{floor, rigid(mover(2, 10))}, impl.PullMax, floor, rigid(mover(2, 10)))
	checkStep(t, "fixed alone", []impl.Body{floor}, impl.PullMax, floor)
	checkStep(t, "no bodies", nil, impl.PullMax)
}

func TestP47ABodyThatTouchesNothingGoesOn(t *testing.T) {
	alone := 0
	for _, list := range courses() {
		touched := make([]bool, len(list))
		for _, k := range impl.Contacts(list) {
			touched[k.A], touched[k.B] = true, true
		}
		for _, pull := range somePulls() {
			got := impl.Step(list, pull)
			for i, b := range list {
				if touched[i] || !takesPart(b) {
					continue
				}
				alone++
				b.Drive.Y = max(b.Drive.Y-pull*b.Mass, -impl.DriveMax)
				want := impl.BodyMove(b)
				if got[i].At != want.At || got[i].Drive != want.Drive && !impl.BodySleeps(got[i]) {
					t.Errorf("%v of no contact is %v, not %v", list[i], got[i], want)
				}
			}
		}
	}
	if alone < 1000 {
		t.Errorf("only %d touched nothing", alone)
	}
}

func TestP47ThePull(t *testing.T) {
	most, pull := impl.DriveMax, impl.PullMax
	for i, c := range []struct {
		mass, pull  int
		drive, left impl.Vec
		to          impl.Vec
	}{
		{2, 0, vec(200, 90), vec(200, 90), vec(100, 45)},
		{2, 1, vec(200, 90), vec(200, 88), vec(100, 44)},
		{2, 32, vec(200, 90), vec(200, 26), vec(100, 13)},
		{1, pull, vec(200, 90), vec(200, 90-pull), vec(200, 90-pull)},
		{1000, pull, vec(-100000, 0), vec(-100000, -2560000), vec(-100, -2560)},
		// from far up
		{1000, pull, vec(100000, most), vec(100000, most-2560000), vec(100, 17440)},
		// just to the limit, and past it
		{1000, pull, vec(100000, 2560001-most), vec(100000, 1-most), vec(100, -19999)},
		{1000, pull, vec(100000, 2560000-most), vec(100000, -most), vec(100, -20000)},
		{1000, pull, vec(100000, 2559999-most), vec(100000, -most), vec(100, -20000)},
		{1000, pull, vec(most, -most), vec(most, -most), vec(20000, -20000)},
		{1000, 1, vec(-most, -most), vec(-most, -most), vec(-20000, -20000)},
	} {
		b := at(1, vec(0, 0), c.mass, c.drive, 0)
		want := at(1, c.to, c.mass, c.left, 0)
		if got := impl.Step([]impl.Body{b}, c.pull); !slices.Equal(got, []impl.Body{want}) {
			t.Errorf("pull %d: %v, not %v", i, got, want)
		}
	}
	// What sleeps, or is fixed, is not pulled; what wakes is.
	still := []impl.Body{asleep(mover(1, 0)), rigid(mover(2, 1000))}
	checkStep(t, "not pulled", still, pull, still...)
	checkStep(t, "woken", []impl.Body{at(1, vec(0, 0), 2, vec(0, 0), 0), asleep(at(2, vec(100, 0), 2, vec(0, 0), 0))}, 50,
		at(1, vec(0, -50), 2, vec(0, -100), 0), at(2, vec(100, -50), 2, vec(0, -100), 0))
}

func TestP47TheEndOfTheWorld(t *testing.T) {
	far := impl.FarMax
	// What is stopped at the end is not driven on, and so it is quiet.
	checkStep(t, "pulled on", []impl.Body{at(1, vec(0, -far), 2, vec(0, -900), 0)}, 32, at(1, vec(0, -far), 2, vec(0, 0), 1))
	checkStep(t, "stopped", []impl.Body{at(1, vec(far-3, 0), 2, vec(900, 4), 6)}, 0, asleep(at(1, vec(far, 2), 2, vec(0, 0), 0)))
	checkStep(t, "just there", []impl.Body{at(1, vec(far-450, 0), 2, vec(900, 4), 6)}, 0, at(1, vec(far, 2), 2, vec(900, 4), 0))
	checkStep(t, "away", []impl.Body{at(1, vec(-far, far), 2, vec(900, -900), 6)}, 0, at(1, vec(450-far, far-450), 2, vec(900, -900), 0))
	// moved apart past the end: 84 deep, 5 of it to do, 2 each
	checkStep(t, "apart", []impl.Body{at(1, vec(-far, 0), 1, vec(3, 0), 0), at(2, vec(16-far, 0), 1, vec(3, 0), 0)}, 0,
		at(1, vec(3-far-2, 0), 1, vec(3, 0), 1), at(2, vec(16-far+3+2, 0), 1, vec(3, 0), 1))
	checkStep(t, "apart past the end", []impl.Body{at(1, vec(-far, 0), 1, vec(1, 0), 0), at(2, vec(16-far, 0), 1, vec(1, 0), 0)}, 0,
		at(1, vec(-far, 0), 1, vec(0, 0), 1), at(2, vec(16-far+1+2, 0), 1, vec(1, 0), 1))
}

func TestP47PushingIsByContactsAheadOfTheStep(t *testing.T) {
	a, b := at(1, vec(0, 0), 1, vec(40, 0), 0), at(2, vec(101, 0), 1, vec(-40, 0), 0)
	// they do not touch yet, so both go on, and into each other
	checkStep(t, "1 apart", []impl.Body{a, b}, 0, at(1, vec(40, 0), 1, vec(40, 0), 0), at(2, vec(61, 0), 1, vec(-40, 0), 0))
	b.At.X = 100
	checkStep(t, "just touching", []impl.Body{a, b}, 0, at(1, vec(0, 0), 1, vec(0, 0), 1), at(2, vec(100, 0), 1, vec(0, 0), 1))
	// they touch and part: moved by speed, and apart as deep as they were ahead, 100 less 10 less Slop, divided by 4
	a, b = at(1, vec(0, 0), 1, vec(-500, 0), 0), at(2, vec(10, 0), 1, vec(500, 0), 0)
	checkStep(t, "parting", []impl.Body{a, b}, 0, at(1, vec(-503, 0), 1, vec(-500, 0), 0), at(2, vec(513, 0), 1, vec(500, 0), 0))
}

func TestP47PartsInTheirOrder(t *testing.T) {
	floor := impl.Body{Id: 1, Shape: slab(500, 100), At: vec(0, -150)}
	// pulled first, and then pushed by what it lies on: it stays
	checkStep(t, "lying", []impl.Body{floor, at(2, vec(0, 0), 2, vec(0, 0), 0)}, 300, floor, at(2, vec(0, 0), 2, vec(0, 0), 1))
	// pushed first, and then moved: with a bounce it goes up at once
	floor.Bounce = 256
	checkStep(t, "bouncing", []impl.Body{floor, at(2, vec(0, 0), 2, vec(0, -400), 0)}, 0, floor, at(2, vec(0, 200), 2, vec(0, 400), 0))
	floor.Bounce = 0
	// moved apart, too, and not driven by that
	floor.At.Y = -130
	floor.Shape.High = 200
	checkStep(t, "deep", []impl.Body{floor, at(2, vec(0, 0), 2, vec(0, 0), 5)}, 0, floor, at(2, vec(0, 14), 2, vec(0, 0), 6))
}

func TestP48WhatSleepsWithAllThatItTouchesSleepsOn(t *testing.T) {
	slept := 0
	for _, list := range courses() {
		awake := awakeByGoing(list)
		for _, pull := range somePulls() {
			got := impl.Step(list, pull)
			for i, b := range list {
				if b.Mass > 0 && !awake[i] {
					slept++
					if got[i] != b {
						t.Errorf("%v of %v sleeps, and is %v", b, list, got[i])
					}
				}
			}
		}
	}
	if slept < 1000 {
		t.Errorf("only %d slept", slept)
	}
}

func TestP48WhoIsWoken(t *testing.T) {
	s := func(id int, x int) impl.Body { return asleep(mover(id, x)) }
	quietFor := func(b impl.Body, quiet int) impl.Body {
		b.Quiet = quiet
		return b
	}
	floor := impl.Body{Id: 9, Shape: slab(5000, 100), At: vec(0, -110)}
	// two that sleep, deep in each other, and one that sleeps deep in what is fixed
	deep := []impl.Body{s(1, 0), s(2, 10), floor}
	checkStep(t, "asleep", deep, 90, deep...)
	far := at(3, vec(1000, 5000), 2, vec(600, 0), 0)
	checkStep(t, "one far away is awake", []impl.Body{s(1, 0), s(2, 10), far}, 0, s(1, 0), s(2, 10), at(3, vec(1300, 5000), 2, vec(600, 0), 0))
	// of one that is awake and one that sleeps, either first; the awake one is just quiet, and touched
	checkStep(t, "the first awake", []impl.Body{quietFor(mover(1, 0), 5), s(2, 100)}, 0, quietFor(mover(1, 0), 6), quietFor(mover(2, 100), 1))
	checkStep(t, "the second awake", []impl.Body{s(1, 0), quietFor(mover(2, 100), 5)}, 0, quietFor(mover(1, 0), 1), quietFor(mover(2, 100), 6))
	// along a row
	checkStep(t, "a row", []impl.Body{s(1, 0), s(2, 100), s(3, 200), mover(4, 300)}, 0,
		quietFor(mover(1, 0), 1), quietFor(mover(2, 100), 1), quietFor(mover(3, 200), 1), quietFor(mover(4, 300), 1))
	// what wakes is moved apart and pushed like any other: of 90 deep 26 are too deep, a quarter of it is 6, half of that each
	checkStep(t, "moved apart", []impl.Body{mover(1, 0), s(2, 10)}, 0, quietFor(at(1, vec(-3, 0), 2, vec(0, 0), 0), 1), quietFor(at(2, vec(13, 0), 2, vec(0, 0), 0), 1))
	checkStep(t, "pushed", []impl.Body{at(1, vec(0, 0), 2, vec(400, 0), 5), s(2, 100)}, 0, at(1, vec(100, 0), 2, vec(200, 0), 0), at(2, vec(200, 0), 2, vec(200, 0), 0))
	// two groups, of which one is awake
	checkStep(t, "two groups", []impl.Body{s(1, 0), mover(2, 1000), s(3, 100), s(4, 1100)}, 0, s(1, 0), quietFor(mover(2, 1000), 1), s(3, 100), quietFor(mover(4, 1100), 1))
	// what is fixed wakes nothing, and passes nothing on
	wall := rigid(mover(2, 100))
	checkStep(t, "over what is fixed", []impl.Body{s(1, 0), wall, mover(3, 200)}, 0, s(1, 0), wall, quietFor(mover(3, 200), 1))
	checkStep(t, "beside what is fixed", []impl.Body{s(1, 0), wall}, impl.PullMax, s(1, 0), wall)
}

func TestP49AGroupSleepsAsOne(t *testing.T) {
	slept := 0
	for _, list := range courses() {
		groups, awake := groupsByGoing(list), awakeByGoing(list)
		for _, pull := range []int{0, 1} {
			got := impl.Step(list, pull)
			for i, a := range got {
				for j, b := range got {
					if awake[i] && groups[i] == groups[j] && impl.BodySleeps(a) != impl.BodySleeps(b) {
						t.Errorf("of a group of %v one sleeps, and one does not: %v", list, got)
					}
				}
				if impl.BodySleeps(a) && awake[i] {
					slept++
				}
			}
		}
	}
	if slept < 100 {
		t.Errorf("only %d fell asleep", slept)
	}
}

// calmPair: two that touch, each with so much speed along the way that both go, and quiet for so long.
func calmPair(quiet int, other int, speed int, otherSpeed int) []impl.Body {
	return []impl.Body{at(1, vec(0, 0), 2, vec(0, 2*speed), quiet), at(2, vec(100, 0), 3, vec(0, 3*otherSpeed), other)}
}

func TestP49HowLongAGroupWasQuiet(t *testing.T) {
	for i, c := range []struct {
		quiet, other, speed, otherSpeed int
		then, otherThen                 int
	}{
		{0, 0, 0, 0, 1, 1},
		{5, 3, 8, -8, 6, 4},
		{6, 5, 8, 8, 7, 6},
		{7, 5, 8, 8, 7, 6},
		{5, 7, 8, 8, 6, 7},
		{6, 6, 8, -8, 8, 8},
		{7, 6, 8, -8, 8, 8},
		{7, 7, 0, 0, 8, 8},
		// all but one are quiet
		{7, 7, 9, 8, 0, 7},
		{7, 7, 8, -9, 7, 0},
		{6, 7, -9, 8, 0, 7},
		{7, 7, 9, 9, 0, 0},
		{8, 7, 0, 8, 1, 7},
		{7, 8, 8, 0, 7, 1},
		{8, 8, 0, 0, 8, 8},
	} {
		list := calmPair(c.quiet, c.other, c.speed, c.otherSpeed)
		got := impl.Step(list, 0)
		want := []impl.Body{list[0], list[1]}
		want[0].At.Y, want[1].At.Y = c.speed, c.otherSpeed
		want[0].Quiet, want[1].Quiet = c.then, c.otherThen
		if c.then == impl.QuietMax {
			want[0], want[1] = asleep(want[0]), asleep(want[1])
		}
		if !slices.Equal(got, want) {
			t.Errorf("quiet %d: %v, not %v", i, got, want)
		}
	}
}

func TestP49SpeedsThatAreJustQuiet(t *testing.T) {
	for _, c := range []struct {
		drive impl.Vec
		quiet bool
	}{
		{vec(0, 0), true}, {vec(80, 0), true}, {vec(-80, 0), true}, {vec(0, 80), true}, {vec(0, -80), true}, {vec(80, -80), true},
		// cut towards 0
		{vec(89, 0), true}, {vec(-89, 0), true}, {vec(0, 89), true}, {vec(0, -89), true}, {vec(-89, 89), true},
		{vec(90, 0), false}, {vec(-90, 0), false}, {vec(0, 90), false}, {vec(0, -90), false}, {vec(90, -90), false}, {vec(0, 9000), false},
	} {
		for quiet := range impl.QuietMax {
			b := at(1, vec(0, 0), 10, c.drive, quiet)
			want := impl.BodyMove(b)
			switch {
			case !c.quiet:
				want.Quiet = 0
			case quiet < impl.QuietMax-2:
				want.Quiet = quiet + 1
			default:
				want = asleep(want)
			}
			checkStep(t, "alone", []impl.Body{b}, 0, want)
		}
	}
}

func TestP49TheSpeedIsThatBehindThePushing(t *testing.T) {
	floor := impl.Body{Id: 1, Shape: slab(500, 100), At: vec(0, -150)}
	// what lies still is pushed in each step, and is quiet for longer each time
	list := []impl.Body{floor, at(2, vec(0, 0), 2, vec(0, 0), 0)}
	for steps := 1; steps <= 9; steps++ {
		list = impl.Step(list, 2000)
		want := steps
		if steps > 6 {
			want = impl.QuietMax
		}
		if len(list) != 2 || list[1] != at(2, vec(0, 0), 2, vec(0, 0), want) {
			t.Errorf("behind %d steps: %v", steps, list)
		}
	}
	// what falls is not
	checkStep(t, "falling", []impl.Body{at(2, vec(0, 0), 2, vec(0, 0), 7)}, 9, at(2, vec(0, -9), 2, vec(0, -18), 0))
	checkStep(t, "falling slowly", []impl.Body{at(2, vec(0, 0), 2, vec(0, 0), 5)}, 8, at(2, vec(0, -8), 2, vec(0, -16), 6))
	// how far it is moved apart is no speed
	checkStep(t, "apart", []impl.Body{rigid(mover(1, 0)), at(2, vec(0, 4), 2, vec(0, 0), 5)}, 0, rigid(mover(1, 0)), at(2, vec(0, 12), 2, vec(0, 0), 6))
}

func TestP49GroupsAreThoseAheadOfTheStep(t *testing.T) {
	// Both part, and are of one group still: that one is not quiet keeps the other one awake.
	list := []impl.Body{at(1, vec(0, 0), 1, vec(0, 0), 7), at(2, vec(100, 0), 1, vec(900, 0), 7)}
	checkStep(t, "parting", list, 0, at(1, vec(0, 0), 1, vec(0, 0), 7), at(2, vec(1000, 0), 1, vec(900, 0), 0))
	// One comes to touch the other, which falls asleep, and is woken in the next step.
	list = []impl.Body{at(1, vec(0, 0), 1, vec(0, 0), 7), at(2, vec(200, 0), 1, vec(-100, 0), 7)}
	checkStep(t, "coming", list, 0, asleep(at(1, vec(0, 0), 1, vec(0, 0), 0)), at(2, vec(100, 0), 1, vec(-100, 0), 0))
	checkStep(t, "then", impl.Step(list, 0), 0, at(1, vec(-50, 0), 1, vec(-50, 0), 0), at(2, vec(50, 0), 1, vec(-50, 0), 0))
}

func TestP50AllIsDrivenTogetherAsItWas(t *testing.T) {
	pushed := 0
	for _, list := range courses() {
		for i, b := range list {
			if b.Mass == 0 || impl.BodySleeps(b) {
				list[i].Mass, list[i].Quiet = max(1, b.Mass), 0
			}
		}
		got := impl.Step(list, 0)
		if slices.ContainsFunc(got, nearTheEnd) || slices.ContainsFunc(got, impl.BodySleeps) {
			continue
		}
		if impl.Drives(got) != impl.Drives(list) {
			t.Errorf("Step(%v) = %v: driven by %v, and %v", list, got, impl.Drives(list), impl.Drives(got))
		}
		for i := range got {
			if got[i].Drive != list[i].Drive {
				pushed++
			}
		}
	}
	if pushed < 1000 {
		t.Errorf("only %d were pushed", pushed)
	}
}

// nearTheEnd: whether a body may have been at the end of the world, where it loses what it was driven by, and moved apart from others there.
func nearTheEnd(b impl.Body) bool {
	return max(distance(b.At.X, 0), distance(b.At.Y, 0)) > impl.FarMax-impl.WideMax
}

func TestP51SoManyStepsAndThenMore(t *testing.T) {
	for i, list := range courses() {
		if i%15 != 0 {
			continue
		}
		pull := somePulls()[i%3]
		if got := impl.Steps(list, pull, 0); !slices.Equal(got, list) {
			t.Errorf("Steps(%v) of 0 = %v", list, got)
		}
		one, some := impl.Step(list, pull), list
		if got := impl.Steps(list, pull, 1); !slices.Equal(got, one) {
			t.Errorf("Steps(%v) of 1 = %v", list, got)
		}
		for n := range 10 {
			if got := impl.Steps(list, pull, n); !slices.Equal(got, some) {
				t.Errorf("Steps(%v) of %d = %v, not %v", list, n, got, some)
			}
			some = impl.Step(some, pull)
		}
		all := impl.Steps(list, pull, 60)
		for _, n := range []int{0, 1, 17, 30, 59, 60} {
			if got := impl.Steps(impl.Steps(list, pull, n), pull, 60-n); !slices.Equal(got, all) {
				t.Errorf("Steps(%v) of %d and %d = %v, not %v", list, n, 60-n, got, all)
			}
		}
	}
}

func TestP51SixtyStepsOfOneThatFalls(t *testing.T) {
	got := impl.Steps([]impl.Body{at(1, vec(0, 100000), 3, vec(0, 0), 0)}, 10, 60)
	// 10 more in each step
	if want := at(1, vec(0, 100000-10*60*61/2), 3, vec(0, -1800), 0); !slices.Equal(got, []impl.Body{want}) {
		t.Errorf("%v, not %v", got, want)
	}
	full := impl.Steps(balls(impl.BodyMax), 10, 60)
	if len(full) != impl.BodyMax || full[11].At.Y != -10*60*61/2 {
		t.Errorf("as many as there may be: %v", full)
	}
}

func TestP52WhatIsStillStaysSo(t *testing.T) {
	still, others := 0, 0
	for _, list := range courses() {
		want := !slices.ContainsFunc(list, takesPart)
		if impl.Still(list) != want {
			t.Errorf("Still(%v) = %t", list, !want)
		}
		if !want {
			others++
			if !slices.Contains(impl.GroupAwake(list), true) {
				t.Errorf("%v are not still, and no group is awake", list)
			}
			continue
		}
		still++
		for _, n := range []int{0, 1, 60} {
			for _, pull := range []int{0, impl.PullMax} {
				if got := impl.Steps(list, pull, n); !slices.Equal(got, list) {
					t.Errorf("Steps(%v, %d, %d) = %v", list, pull, n, got)
				}
			}
		}
	}
	if still < 100 || others < 100 {
		t.Errorf("%d were still, and %d were not", still, others)
	}
}

func TestP52WhoIsStill(t *testing.T) {
	almost := changed(mover(3, 200), func(b *impl.Body) { b.Quiet = impl.QuietMax - 1 })
	for _, c := range []struct {
		list []impl.Body
		want bool
	}{
		{nil, true},
		{[]impl.Body{}, true},
		{[]impl.Body{rigid(mover(1, 0)), rigid(mover(2, 10))}, true},
		{[]impl.Body{asleep(mover(1, 0))}, true},
		{[]impl.Body{asleep(mover(1, 0)), rigid(mover(2, 10)), asleep(mover(3, 20))}, true},
		{[]impl.Body{mover(1, 0)}, false},
		{[]impl.Body{asleep(mover(1, 0)), rigid(mover(2, 10)), almost}, false},
		{[]impl.Body{mover(1, 0), asleep(mover(2, 9000))}, false},
	} {
		if got := impl.Still(c.list); got != c.want {
			t.Errorf("Still(%v) = %t", c.list, got)
		}
	}
}

func TestP53BodiesAreToldToTouchIfTheyDo(t *testing.T) {
	told := 0
	for _, list := range courses() {
		var want []impl.Pair
		for _, k := range contactsByLooking(list) {
			want = append(want, impl.Pair{A: list[k.A].Id, B: list[k.B].Id})
		}
		var bounds impl.Broad
		for _, b := range list {
			bounds, _ = impl.BroadPut(bounds, item(b.Id, impl.ShapeBounds(b.Shape, b.At)))
		}
		met, got := impl.BroadPairs(bounds), impl.StepPairs(list)
		if !slices.Equal(got, want) || len(got) != len(impl.Contacts(list)) {
			t.Errorf("StepPairs(%v) = %v, not %v", list, got, want)
		}
		for _, p := range got {
			if !slices.Contains(met, p) {
				t.Errorf("StepPairs(%v) = %v, and bounds of %v do not meet", list, got, p)
			}
		}
		told += len(got)
	}
	if told < 1000 {
		t.Errorf("only %d pairs in all", told)
	}
}

func TestP53SomePairs(t *testing.T) {
	last := impl.FixMax - 1
	for _, c := range []struct {
		list []impl.Body
		want []impl.Pair
	}{
		{nil, nil},
		{[]impl.Body{mover(5, 0)}, nil},
		{[]impl.Body{mover(5, 0), mover(last, 100)}, []impl.Pair{{A: 5, B: last}}},
		{[]impl.Body{mover(5, 0), mover(last, 101)}, nil},
		{[]impl.Body{rigid(mover(0, 0)), mover(7, 50), rigid(mover(9, 60)), asleep(mover(20, 120))}, []impl.Pair{{A: 0, B: 7}, {A: 7, B: 9}, {A: 7, B: 20}, {A: 9, B: 20}}},
		{[]impl.Body{asleep(mover(3, 0)), asleep(mover(4, 10))}, []impl.Pair{{A: 3, B: 4}}},
		{[]impl.Body{rigid(mover(3, 0)), rigid(mover(4, 10))}, nil},
	} {
		if got := impl.StepPairs(c.list); !slices.Equal(got, c.want) {
			t.Errorf("StepPairs(%v) = %v, not %v", c.list, got, c.want)
		}
	}
}

func TestP45To53BodiesThatAreNotOk(t *testing.T) {
	for _, list := range badLists() {
		if got := impl.StepPairs(list); len(got) != 0 || impl.Still(list) {
			t.Errorf("%v are not ok: %v, %t", list, got, impl.Still(list))
		}
		for _, pull := range []int{0, 32, impl.PullMax, -1, impl.PullMax + 1} {
			if got := impl.Step(list, pull); len(got) != 0 {
				t.Errorf("Step(%v, %d) = %v", list, pull, got)
			}
			for _, n := range []int{0, 1, 60, 61, -1} {
				if got := impl.Steps(list, pull, n); len(got) != 0 {
					t.Errorf("Steps(%v, %d, %d) = %v", list, pull, n, got)
				}
			}
		}
	}
	// Of what sleeps, but is not ok, nothing is still.
	if impl.Still([]impl.Body{asleep(mover(2, 0)), asleep(mover(1, 500))}) || impl.Still([]impl.Body{asleep(mover(2, 0)), asleep(mover(2, 500))}) {
		t.Error("Ids that do not ascend are still")
	}
}

func TestP45To51PullsAndCountsThatAreNotOk(t *testing.T) {
	for _, list := range goodLists() {
		for _, pull := range badPulls() {
			if got := impl.Step(list, pull); len(got) != 0 {
				t.Errorf("Step(%v, %d) = %v", list, pull, got)
			}
			for _, n := range []int{0, 1, 60} {
				if got := impl.Steps(list, pull, n); len(got) != 0 {
					t.Errorf("Steps(%v, %d, %d) = %v", list, pull, n, got)
				}
			}
		}
		for _, n := range badCounts() {
			for _, pull := range somePulls() {
				if got := impl.Steps(list, pull, n); len(got) != 0 {
					t.Errorf("Steps(%v, %d, %d) = %v", list, pull, n, got)
				}
			}
		}
		for _, pull := range somePulls() {
			if len(impl.Step(list, pull)) != len(list) || len(impl.Steps(list, pull, 0)) != len(list) || len(impl.Steps(list, pull, 60)) != len(list) {
				t.Errorf("%v and a pull of %d are ok", list, pull)
			}
		}
	}
}

func TestP45To53ArgumentsAreLeftAndNotShared(t *testing.T) {
	for _, list := range append(courses(), badLists()...) {
		given := spare(list, plain())
		before := slices.Clone(whole(given))
		none, one, some, pairs := impl.Steps(given, 32, 0), impl.Step(given, 32), impl.Steps(given, 32, 2), impl.StepPairs(given)
		impl.Still(given)
		wantOne, wantSome, wantPairs := slices.Clone(one), slices.Clone(some), slices.Clone(pairs)
		clear(whole(none))
		clear(whole(pairs))
		if !slices.Equal(one, wantOne) || !slices.Equal(some, wantSome) {
			t.Errorf("answers of %v share memory", list)
		}
		clear(whole(one))
		clear(whole(some))
		if !slices.Equal(whole(given), before) {
			t.Errorf("something was written into %v", before)
		}
		if !slices.Equal(impl.Step(given, 32), wantOne) || !slices.Equal(impl.Steps(given, 32, 2), wantSome) || !slices.Equal(impl.StepPairs(given), wantPairs) {
			t.Errorf("an answer of %v was kept", list)
		}
	}
}
