package tests

import (
	"math"
	"math/rand/v2"
	"slices"
	"testing"

	"loop.example/parquetry/impl"
)

// plain: a body that is ok, with nothing at a limit.
func plain() impl.Body {
	return impl.Body{Id: 7, Shape: slab(300, 100), At: vec(-50, 60), Drive: vec(700, -900), Mass: 4, Bounce: 100, Rub: 50, Quiet: 3}
}

// changed: a body with something else about it.
func changed(b impl.Body, how func(b *impl.Body)) impl.Body {
	how(&b)
	return b
}

// rigid: the body fixed.
func rigid(b impl.Body) impl.Body {
	b.Mass, b.Drive, b.Quiet = 0, impl.Vec{}, 0
	return b
}

// asleep: the body sleeping.
func asleep(b impl.Body) impl.Body {
	b.Drive, b.Quiet = impl.Vec{}, impl.QuietMax
	return b
}

// goodBodies: bodies at each limit, and within.
func goodBodies() []impl.Body {
	most, far := impl.DriveMax, impl.FarMax
	list := []impl.Body{plain(), rigid(plain()), asleep(plain())}
	for _, how := range []func(b *impl.Body){
		func(b *impl.Body) { b.Id = 0 },
		func(b *impl.Body) { b.Id = impl.FixMax - 1 },
		func(b *impl.Body) { b.At = vec(far, -far) },
		func(b *impl.Body) { b.At = vec(-far, far) },
		func(b *impl.Body) { b.Drive = vec(most, -most) },
		func(b *impl.Body) { b.Drive = vec(-most, most) },
		func(b *impl.Body) { b.Drive = impl.Vec{} },
		func(b *impl.Body) { b.Mass = 1 },
		func(b *impl.Body) { b.Mass = 1; b.Drive = vec(most, most) },
		func(b *impl.Body) { b.Mass = impl.MassMax },
		func(b *impl.Body) { b.Bounce = 0; b.Rub = 0 },
		func(b *impl.Body) { b.Bounce = impl.One; b.Rub = impl.One },
		func(b *impl.Body) { b.Quiet = 0 },
		func(b *impl.Body) { b.Quiet = impl.QuietMax - 1 },
	} {
		list = append(list, changed(plain(), how))
	}
	for _, s := range goodShapes() {
		list = append(list, changed(plain(), func(b *impl.Body) { b.Shape = s }))
	}
	return list
}

// badBodies: each with one thing that is not ok.
func badBodies() []impl.Body {
	list := []impl.Body{{}}
	for _, n := range []int{-1, math.MinInt, math.MaxInt} {
		list = append(list,
			changed(plain(), func(b *impl.Body) { b.Id = n }), changed(plain(), func(b *impl.Body) { b.Mass = n }), changed(plain(), func(b *impl.Body) { b.Bounce = n }),
			changed(plain(), func(b *impl.Body) { b.Rub = n }), changed(plain(), func(b *impl.Body) { b.Quiet = n }))
	}
	for _, how := range []func(b *impl.Body){
		func(b *impl.Body) { b.Id = impl.FixMax },
		func(b *impl.Body) { b.Mass = impl.MassMax + 1 },
		func(b *impl.Body) { b.Bounce = impl.One + 1 },
		func(b *impl.Body) { b.Rub = impl.One + 1 },
		func(b *impl.Body) { b.Quiet = impl.QuietMax + 1; b.Drive = impl.Vec{} },
		// what is fixed and has a drive, or is quiet
		func(b *impl.Body) { b.Mass = 0; b.Quiet = 0 },
		func(b *impl.Body) { b.Mass = 0; b.Quiet = 0; b.Drive = vec(0, 1) },
		func(b *impl.Body) { b.Mass = 0; b.Quiet = 0; b.Drive = vec(-1, 0) },
		func(b *impl.Body) { b.Mass = 0; b.Drive = impl.Vec{} },
		func(b *impl.Body) { b.Mass = 0; b.Drive = impl.Vec{}; b.Quiet = impl.QuietMax },
		// what sleeps and has a drive
		func(b *impl.Body) { b.Quiet = impl.QuietMax },
		func(b *impl.Body) { b.Quiet = impl.QuietMax; b.Drive = vec(1, 0) },
		func(b *impl.Body) { b.Quiet = impl.QuietMax; b.Drive = vec(0, -1) },
	} {
		list = append(list, changed(plain(), how))
	}
	for _, p := range noPlaces() {
		list = append(list, changed(plain(), func(b *impl.Body) { b.At = p }), changed(rigid(plain()), func(b *impl.Body) { b.At = p }))
	}
	for _, p := range noDrives() {
		list = append(list, changed(plain(), func(b *impl.Body) { b.Drive = p }))
	}
	for _, s := range badShapes() {
		list = append(list, changed(plain(), func(b *impl.Body) { b.Shape = s }), changed(asleep(plain()), func(b *impl.Body) { b.Shape = s }))
	}
	return list
}

// noDrives: ways of which one number is past DriveMax.
func noDrives() []impl.Vec {
	over := impl.DriveMax + 1
	return []impl.Vec{{X: over}, {X: -over}, {Y: over}, {Y: -over}, {X: over, Y: -over}, {X: 5, Y: math.MaxInt}, {X: math.MinInt, Y: 5}}
}

// someDrives: ways that bodies may be driven by.
func someDrives() []impl.Vec {
	most := impl.DriveMax
	return []impl.Vec{{}, {X: 1}, {X: -1}, {Y: 1}, {Y: -1}, {X: 300, Y: -7}, {X: most, Y: most}, {X: -most, Y: -most}, {X: most, Y: -1}, {X: most - 1, Y: 1 - most}, {X: -12345, Y: 6789}}
}

// anyBody: somewhere within spread, often fixed or asleep.
func anyBody(r *rand.Rand, id int, spread int, size int) impl.Body {
	masses := []int{0, 0, 1, 2, 3, impl.MassMax, 1 + r.IntN(impl.MassMax), 1 + r.IntN(20)}
	b := impl.Body{Id: id, Shape: anyShape(r, size), At: near(r, impl.Vec{}, spread), Mass: masses[r.IntN(len(masses))]}
	b.Bounce, b.Rub = r.IntN(impl.One+1), r.IntN(impl.One+1)
	if b.Mass == 0 {
		return b
	}
	if r.IntN(4) == 0 {
		return asleep(b)
	}
	b.Quiet = r.IntN(impl.QuietMax)
	top := min(impl.DriveMax, 1<<r.IntN(26))
	b.Drive = vec(r.IntN(2*top+1)-top, r.IntN(2*top+1)-top)
	return b
}

// anyBodies: so many bodies under ascending Ids.
func anyBodies(r *rand.Rand, count int, spread int, size int) []impl.Body {
	var list []impl.Body
	id := r.IntN(3)
	for range count {
		list = append(list, anyBody(r, id, spread, size))
		id += 1 + r.IntN(1000)
	}
	return list
}

// balls: so many bodies that are round, each touching the next one, under the Ids 0, 1, 2 ..
func balls(count int) []impl.Body {
	var list []impl.Body
	for i := range count {
		list = append(list, impl.Body{Id: i, Shape: round(50), At: vec(100*i, 0), Mass: 1 + i})
	}
	return list
}

// goodLists: none, few, and as many bodies as there may be, close together and far apart.
func goodLists() [][]impl.Body {
	r := fixed()
	last := changed(plain(), func(b *impl.Body) { b.Id = impl.FixMax - 1 })
	list := [][]impl.Body{nil, {}, {last}, {changed(plain(), func(b *impl.Body) { b.Id = 0 }), last}, balls(1), balls(impl.BodyMax)}
	for _, b := range goodBodies() {
		list = append(list, []impl.Body{b})
	}
	for _, count := range []int{2, 3, 5, 8, 11, 12} {
		for _, spread := range []int{10, 500, 3000, impl.FarMax} {
			for range 10 {
				list = append(list, anyBodies(r, count, spread, 500))
			}
		}
	}
	return list
}

// badLists: each with one thing that is not ok.
func badLists() [][]impl.Body {
	two := balls(2)
	list := [][]impl.Body{balls(impl.BodyMax + 1), balls(100), {two[1], two[0]}, {two[0], two[0]}, {two[0], two[1], two[1]}, {two[0], two[1], two[0]}}
	swapped := balls(impl.BodyMax)
	swapped[10], swapped[11] = swapped[11], swapped[10]
	list = append(list, swapped)
	for _, b := range badBodies() {
		list = append(list, []impl.Body{b}, []impl.Body{two[0], two[1], b})
	}
	return list
}

// spare: the same list, with spare room behind it that holds something.
func spare[T any](list []T, other T) []T {
	return append(slices.Clone(list), other, other)[:len(list)]
}

// speedOf: how fast a body that is ok goes, found another way than the program does.
func speedOf(b impl.Body) impl.Vec {
	if b.Mass == 0 {
		return impl.Vec{}
	}
	return vec(cut(large(b.Drive.X), b.Mass), cut(large(b.Drive.Y), b.Mass))
}

// heldIn: the number, within limits on either side of 0.
func heldIn(n int, limit int) int {
	return max(-limit, min(limit, n))
}

// pushedBy: what BodyPush must answer of what is ok.
func pushedBy(b impl.Body, p impl.Vec) impl.Body {
	if b.Mass != 0 {
		b.Drive = vec(heldIn(b.Drive.X+p.X, impl.DriveMax), heldIn(b.Drive.Y+p.Y, impl.DriveMax))
		b.Quiet = 0
	}
	return b
}

// movedBy: a body behind moving by a way, as the document says it.
func movedBy(b impl.Body, w impl.Vec) impl.Body {
	to := vec(b.At.X+w.X, b.At.Y+w.Y)
	b.At = vec(heldIn(to.X, impl.FarMax), heldIn(to.Y, impl.FarMax))
	if b.At.X != to.X {
		b.Drive.X = 0
	}
	if b.At.Y != to.Y {
		b.Drive.Y = 0
	}
	return b
}

func TestLimitsOfBodies(t *testing.T) {
	if impl.BodyMax != 12 || impl.MassMax != 1000 || impl.DriveMax != 20000000 || impl.QuietMax != 8 || impl.QuietWay != 8 {
		t.Error("limits")
	}
}

func TestBodiesThatAreOk(t *testing.T) {
	for _, b := range goodBodies() {
		if !impl.BodyOk(b) {
			t.Errorf("%v is not ok", b)
		}
	}
	for _, b := range badBodies() {
		if impl.BodyOk(b) {
			t.Errorf("%v is ok", b)
		}
	}
}

func TestListsThatAreOk(t *testing.T) {
	for _, list := range goodLists() {
		if !impl.BodiesOk(list) {
			t.Errorf("%v are not ok", list)
		}
	}
	for _, list := range badLists() {
		if impl.BodiesOk(list) {
			t.Errorf("%v are ok", list)
		}
	}
}

func TestP30SpeedIsDriveDividedByMass(t *testing.T) {
	for _, mass := range []int{1, 2, 3, 7, 256, 999, impl.MassMax} {
		for _, p := range someDrives() {
			b := changed(plain(), func(b *impl.Body) { b.Mass, b.Drive = mass, p })
			got := impl.BodySpeed(b)
			for _, c := range [][2]int{{got.X, p.X}, {got.Y, p.Y}} {
				left := c[1] - c[0]*mass
				if distance(left, 0) >= mass || left < 0 && c[1] > 0 || left > 0 && c[1] < 0 || c[1] == 0 && c[0] != 0 {
					t.Errorf("BodySpeed(%v) = %v", b, got)
				}
			}
		}
	}
	for _, b := range goodBodies() {
		if got := impl.BodySpeed(b); got != speedOf(b) {
			t.Errorf("BodySpeed(%v) = %v", b, got)
		}
	}
	if got := impl.BodySpeed(changed(plain(), func(b *impl.Body) { b.Drive, b.Mass = vec(-7, 7), 4 })); got != vec(-1, 1) {
		t.Errorf("-7 and 7 divided by 4 are %v", got)
	}
	if got := impl.BodySpeed(changed(plain(), func(b *impl.Body) { b.Drive, b.Mass = vec(-3, 3), 4 })); got != vec(0, 0) {
		t.Errorf("-3 and 3 divided by 4 are %v", got)
	}
}

func TestP30WhatIsFixedOrSleepsDoesNotGo(t *testing.T) {
	for _, b := range goodBodies() {
		if impl.BodySpeed(rigid(b)) != (impl.Vec{}) || impl.BodySpeed(asleep(b)) != (impl.Vec{}) {
			t.Errorf("%v fixed or asleep goes", b)
		}
	}
	for _, b := range badBodies() {
		if got := impl.BodySpeed(b); got != (impl.Vec{}) {
			t.Errorf("BodySpeed(%v) = %v", b, got)
		}
	}
}

func TestP30WhatSleeps(t *testing.T) {
	for _, b := range goodBodies() {
		if impl.BodySleeps(b) != (b.Quiet == 8) || b.Mass != 0 && !impl.BodySleeps(asleep(b)) || impl.BodySleeps(rigid(b)) {
			t.Errorf("BodySleeps(%v) = %t", b, impl.BodySleeps(b))
		}
	}
	for _, b := range badBodies() {
		if impl.BodySleeps(b) {
			t.Errorf("%v is not ok, and sleeps", b)
		}
	}
}

func TestP31WhatIsPushedIsDrivenByMore(t *testing.T) {
	most := impl.DriveMax
	for _, b := range goodBodies() {
		for _, p := range someDrives() {
			got := impl.BodyPush(b, p)
			if got != pushedBy(b, p) || !impl.BodyOk(got) || b.Mass != 0 && impl.BodySleeps(got) {
				t.Errorf("BodyPush(%v, %v) = %v", b, p, got)
			}
			if distance(b.Drive.X+p.X, 0) > most || distance(b.Drive.Y+p.Y, 0) > most {
				continue
			}
			back := changed(b, func(b *impl.Body) { b.Quiet = 0 })
			if impl.BodyPush(got, opposite(p)) != back {
				t.Errorf("%v pushed by %v and back is %v", b, p, impl.BodyPush(got, opposite(p)))
			}
		}
	}
}

func TestP31APushPastTheLimit(t *testing.T) {
	most := impl.DriveMax
	for _, c := range []struct{ drive, push, want impl.Vec }{
		{vec(most, -most), vec(1, -1), vec(most, -most)},
		{vec(most-1, 1-most), vec(1, -1), vec(most, -most)},
		{vec(most-1, 1-most), vec(2, -2), vec(most, -most)},
		{vec(most, 0), vec(most, most), vec(most, most)},
		{vec(-most, 5), vec(-most, -most), vec(-most, 5-most)},
		{vec(most, most), vec(-most, -most), vec(0, 0)},
		{vec(most, most), vec(-1, 1), vec(most-1, most)},
	} {
		b := changed(plain(), func(b *impl.Body) { b.Drive = c.drive })
		want := changed(plain(), func(b *impl.Body) { b.Drive, b.Quiet = c.want, 0 })
		if got := impl.BodyPush(b, c.push); got != want {
			t.Errorf("BodyPush(%v, %v) = %v, not %v", b, c.push, got, want)
		}
	}
}

func TestP31APushOfNothingWakes(t *testing.T) {
	if got := impl.BodyPush(asleep(plain()), impl.Vec{}); got.Quiet != 0 || got.Drive != (impl.Vec{}) || impl.BodySleeps(got) {
		t.Errorf("pushed by nothing it is %v", got)
	}
	if got := impl.BodyPush(rigid(plain()), vec(5, 5)); got != rigid(plain()) {
		t.Errorf("fixed and pushed it is %v", got)
	}
}

func TestP31WhatIsNotOkIsNotPushed(t *testing.T) {
	for _, b := range badBodies() {
		if got := impl.BodyPush(b, vec(1, 1)); got != (impl.Body{}) {
			t.Errorf("BodyPush(%v) = %v", b, got)
		}
	}
	for _, p := range noDrives() {
		for _, b := range goodBodies() {
			if got := impl.BodyPush(b, p); got != (impl.Body{}) {
				t.Errorf("BodyPush(%v, %v) = %v", b, p, got)
			}
		}
	}
}

func TestP32ABodyGoesAsFarAsItsSpeed(t *testing.T) {
	for _, b := range goodBodies() {
		got, speed := impl.BodyMove(b), impl.BodySpeed(b)
		if got != movedBy(b, speedOf(b)) || !impl.BodyOk(got) {
			t.Errorf("BodyMove(%v) = %v", b, got)
		}
		to := vec(b.At.X+speed.X, b.At.Y+speed.Y)
		if distance(to.X, 0) > impl.FarMax || distance(to.Y, 0) > impl.FarMax {
			continue
		}
		if got != changed(b, func(b *impl.Body) { b.At = to }) {
			t.Errorf("BodyMove(%v) = %v changes more than At", b, got)
		}
	}
	for _, b := range []impl.Body{rigid(plain()), asleep(plain())} {
		if got := impl.BodyMove(b); got != b {
			t.Errorf("%v goes to %v", b, got)
		}
	}
}

func TestP32TheEndOfTheWorld(t *testing.T) {
	far := impl.FarMax
	for _, c := range []struct{ at, drive, to, left impl.Vec }{
		// just to the end, and 1 past it
		{vec(far-10, 0), vec(40, 8), vec(far, 2), vec(40, 8)},
		{vec(far-9, 0), vec(40, 8), vec(far, 2), vec(0, 8)},
		{vec(10-far, 0), vec(-40, 8), vec(-far, 2), vec(-40, 8)},
		{vec(9-far, 0), vec(-40, 8), vec(-far, 2), vec(0, 8)},
		{vec(0, far-10), vec(8, 40), vec(2, far), vec(8, 40)},
		{vec(0, far-9), vec(8, 40), vec(2, far), vec(8, 0)},
		{vec(0, 9-far), vec(8, -40), vec(2, -far), vec(8, 0)},
		// in a corner, and away from it
		{vec(far, -far), vec(4, -4), vec(far, -far), vec(0, 0)},
		{vec(far, -far), vec(-4, 4), vec(far-1, 1-far), vec(-4, 4)},
		// at the end, with a drive that is no speed
		{vec(far, far), vec(3, 3), vec(far, far), vec(3, 3)},
		{vec(-far, 0), vec(-impl.DriveMax, impl.DriveMax), vec(-far, far), vec(0, 0)},
	} {
		b := changed(plain(), func(b *impl.Body) { b.At, b.Drive = c.at, c.drive })
		want := changed(b, func(b *impl.Body) { b.At, b.Drive = c.to, c.left })
		if got := impl.BodyMove(b); got != want {
			t.Errorf("BodyMove(%v) = %v, not %v", b, got, want)
		}
	}
}

func TestP32WhatIsNotOkDoesNotMove(t *testing.T) {
	for _, b := range badBodies() {
		if got := impl.BodyMove(b); got != (impl.Body{}) {
			t.Errorf("BodyMove(%v) = %v", b, got)
		}
	}
}

func TestP33DrivesAreAllTogether(t *testing.T) {
	for _, list := range goodLists() {
		var want impl.Vec
		for _, b := range list {
			want = vec(want.X+b.Drive.X, want.Y+b.Drive.Y)
		}
		got := impl.Drives(list)
		if got != want {
			t.Errorf("Drives(%v) = %v, not %v", list, got, want)
		}
		if len(list) > 0 && got != impl.VecAdd(list[0].Drive, impl.Drives(list[1:])) {
			t.Errorf("Drives(%v) are not the first one's and those of all others", list)
		}
	}
	full := balls(impl.BodyMax)
	for i := range full {
		full[i].Drive = vec(impl.DriveMax, -impl.DriveMax)
	}
	if got := impl.Drives(full); got != vec(240000000, -240000000) {
		t.Errorf("Drives of 12 at the limit = %v", got)
	}
	for _, list := range badLists() {
		if got := impl.Drives(list); got != (impl.Vec{}) {
			t.Errorf("Drives(%v) = %v", list, got)
		}
	}
}

func TestP33BodiesAreLeft(t *testing.T) {
	for _, list := range append(goodLists(), badLists()...) {
		given := spare(list, plain())
		before := slices.Clone(whole(given))
		impl.BodiesOk(given)
		impl.Drives(given)
		if !slices.Equal(whole(given), before) {
			t.Errorf("something was written into %v", before)
		}
	}
}
