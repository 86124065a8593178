package tests

import (
	"math"
	"math/rand/v2"
	"slices"
	"testing"

	"loop.example/parquetry/impl"
)

// pushCase: two bodies and how they touch.
type pushCase struct {
	a impl.Body
	b impl.Body
	h impl.Hit
}

func (c pushCase) closing() int {
	return impl.Closing(c.a, c.b, c.h)
}

func (c pushCase) push(bounce bool) impl.Vec {
	return impl.PushOf(c.a, c.b, c.h, bounce)
}

func (c pushCase) turned() pushCase {
	return pushCase{c.b, c.a, impl.Hit{Way: opposite(c.h.Way), Deep: c.h.Deep}}
}

// anyHit: of all ways that are ok, about as long as 1 or not.
func anyHit(r *rand.Rand) impl.Hit {
	h := hit(r.IntN(513)-256, r.IntN(513)-256, r.IntN(4*impl.WideMax+1))
	switch r.IntN(4) {
	case 0:
		h.Way = []impl.Vec{{X: 256}, {X: -256}, {Y: 256}, {Y: -256}, {}, {X: 256, Y: -256}}[r.IntN(6)]
	case 1, 2:
		h.Way = impl.VecUnit(vec(r.IntN(20001)-10000, r.IntN(20001)-10000))
	}
	return h
}

// pushCases: two of all bodies, and of all that are at limits, with hits of all ways.
func pushCases() []pushCase {
	var list []pushCase
	r := fixed()
	for _, a := range goodBodies() {
		for _, b := range goodBodies() {
			list = append(list, pushCase{a, b, anyHit(r)}, pushCase{a, b, hit(256, 256, 0)})
		}
	}
	for range 30000 {
		list = append(list, pushCase{anyBody(r, 1, 500, 500), anyBody(r, 2, 500, 500), anyHit(r)})
	}
	return list
}

// goodHits, badHits: at each limit, and one past it.
func goodHits() []impl.Hit {
	return []impl.Hit{{}, hit(256, 256, 0), hit(-256, -256, 4*impl.WideMax), hit(0, 1, 1), hit(5, -7, impl.Slop)}
}

func badHits() []impl.Hit {
	return []impl.Hit{hit(257, 0, 5), hit(-257, 0, 5), hit(0, 257, 5), hit(0, -257, 5), hit(256, 0, -1), hit(256, 0, 4*impl.WideMax+1), hit(256, 0, math.MaxInt), hit(256, 0, math.MinInt), hit(math.MaxInt, 0, 5), hit(0, math.MinInt, 5)}
}

// alongOf: how fast the first of two goes along a way as the second sees it.
func alongOf(a impl.Body, b impl.Body, w impl.Vec) int {
	x, y := speedOf(a), speedOf(b)
	sum := product(x.X-y.X, w.X)
	return cut(sum.Add(sum, product(x.Y-y.Y, w.Y)), impl.One)
}

// togetherOf: what a speed comes to together.
func togetherOf(n int, a impl.Body, b impl.Body) int {
	switch {
	case a.Mass == 0:
		return n * b.Mass
	case b.Mass == 0:
		return n * a.Mass
	}
	return n * (a.Mass * b.Mass) / (a.Mass + b.Mass)
}

// pushByWords: what PushOf must answer of what is ok, as the document says it.
func pushByWords(a impl.Body, b impl.Body, h impl.Hit, bounce bool) impl.Vec {
	c := alongOf(a, b, h.Way)
	if c <= 0 || a.Mass == 0 && b.Mass == 0 {
		return impl.Vec{}
	}
	n := c
	if bounce {
		n += c * max(a.Bounce, b.Bounce) / impl.One
	}
	p := togetherOf(n, a, b)
	side := vec(-h.Way.Y, h.Way.X)
	s := heldIn(togetherOf(alongOf(a, b, side), a, b), p*min(a.Rub, b.Rub)/impl.One)
	x, y := (p*h.Way.X+s*side.X)/impl.One, (p*h.Way.Y+s*side.Y)/impl.One
	return vec(heldIn(x, impl.DriveMax), heldIn(y, impl.DriveMax))
}

// wouldBe: whether a body's drive would be one behind a push.
func wouldBe(b impl.Body, p impl.Vec) bool {
	most := impl.DriveMax
	return b.Mass == 0 || distance(b.Drive.X+p.X, 0) <= most && distance(b.Drive.Y+p.Y, 0) <= most
}

// pushAllByWords: what PushAll must answer of what is ok, as the document says it.
func pushAllByWords(list []impl.Body, contacts []impl.Contact) []impl.Body {
	list = slices.Clone(list)
	for round := range 4 {
		for _, k := range contacts {
			p := pushByWords(list[k.A], list[k.B], k.Hit, round == 0)
			if p != (impl.Vec{}) && wouldBe(list[k.A], opposite(p)) && wouldBe(list[k.B], p) {
				list[k.A], list[k.B] = pushedBy(list[k.A], opposite(p)), pushedBy(list[k.B], p)
			}
		}
	}
	return list
}

// apartByWords: what Apart must answer of what is ok, as the document says it.
func apartByWords(list []impl.Body, contacts []impl.Contact) []impl.Body {
	list = slices.Clone(list)
	for _, k := range contacts {
		n := (k.Hit.Deep - 64) / 4
		a, b := list[k.A].Mass, list[k.B].Mass
		if n <= 0 || a == 0 && b == 0 {
			continue
		}
		x, y := n*b/(a+b), n*a/(a+b)
		if a == 0 {
			y = n
		}
		if b == 0 {
			x = n
		}
		if a != 0 {
			list[k.A] = movedBy(list[k.A], vec(-k.Hit.Way.X*x/256, -k.Hit.Way.Y*x/256))
		}
		if b != 0 {
			list[k.B] = movedBy(list[k.B], vec(k.Hit.Way.X*y/256, k.Hit.Way.Y*y/256))
		}
	}
	return list
}

// anyContacts: so many contacts between some of so many bodies, either first.
func anyContacts(r *rand.Rand, bodies int, count int) []impl.Contact {
	var list []impl.Contact
	for bodies > 1 && len(list) < count {
		if a, b := r.IntN(bodies), r.IntN(bodies); a != b {
			list = append(list, impl.Contact{A: a, B: b, Hit: anyHit(r)})
		}
	}
	return list
}

// crowd: bodies and contacts between them.
type crowd struct {
	list     []impl.Body
	contacts []impl.Contact
}

// crowds: bodies with the contacts that they have, and with others.
func crowds() []crowd {
	list, r := []crowd{}, fixed()
	for _, bodies := range scenes() {
		list = append(list, crowd{bodies, impl.Contacts(bodies)}, crowd{bodies, anyContacts(r, len(bodies), r.IntN(20))}, crowd{bodies, nil})
	}
	for range 20 {
		list = append(list, crowd{anyBodies(r, impl.BodyMax, 500, 300), anyContacts(r, impl.BodyMax, impl.BodyMax*impl.BodyMax)})
	}
	return list
}

// badCrowds: each with one thing that is not ok.
func badCrowds() []crowd {
	four := balls(4)
	var list []crowd
	for _, k := range [][2]int{{0, 0}, {3, 3}, {-1, 0}, {0, -1}, {0, 4}, {4, 0}, {math.MaxInt, 1}, {1, math.MinInt}, {-1, -1}, {4, 5}} {
		one := impl.Contact{A: k[0], B: k[1], Hit: hit(256, 0, 200)}
		list = append(list, crowd{four, []impl.Contact{one}}, crowd{four, []impl.Contact{{A: 0, B: 1, Hit: hit(256, 0, 200)}, one}})
	}
	for _, h := range badHits() {
		one := impl.Contact{A: 0, B: 1, Hit: h}
		list = append(list, crowd{four, []impl.Contact{one}}, crowd{four, []impl.Contact{{A: 2, B: 1, Hit: hit(256, 0, 200)}, one}})
	}
	for _, bodies := range badLists() {
		list = append(list, crowd{bodies, nil})
		if len(bodies) > 1 {
			list = append(list, crowd{bodies, []impl.Contact{{A: 0, B: 1, Hit: hit(256, 0, 200)}}})
		}
	}
	list = append(list, crowd{nil, []impl.Contact{{}}}, crowd{nil, []impl.Contact{{A: 0, B: 1}}}, crowd{four[:1], []impl.Contact{{A: 0, B: 1}}})
	return append(list, crowd{four, anyContacts(fixed(), 4, 145)}, crowd{four, anyContacts(fixed(), 4, 1000)})
}

func driven(id int, mass int, x int, y int) impl.Body {
	return impl.Body{Id: id, Shape: round(50), At: vec(90*id, 0), Drive: vec(x, y), Mass: mass}
}

func TestP39TwoComeNearerEitherWayRound(t *testing.T) {
	if impl.Rounds != 4 || impl.Slop != 64 {
		t.Error("limits")
	}
	for _, c := range pushCases() {
		got := c.closing()
		if got != alongOf(c.a, c.b, c.h.Way) || got != c.turned().closing() {
			t.Errorf("Closing%v = %d, and turned %d", c, got, c.turned().closing())
		}
		c.a.Drive, c.b.Drive = impl.Vec{}, impl.Vec{}
		if c.closing() != 0 {
			t.Errorf("%v are not driven", c)
		}
	}
}

func TestP39HowFastSomeComeNearer(t *testing.T) {
	most := impl.DriveMax
	for _, c := range []struct {
		a, b impl.Body
		h    impl.Hit
		want int
	}{
		{driven(1, 2, 600, 90), driven(2, 3, 0, 0), hit(256, 0, 10), 300},
		{driven(1, 2, 600, 90), driven(2, 3, 0, 0), hit(-256, 0, 10), -300},
		{driven(1, 2, 600, 90), driven(2, 3, 0, 0), hit(0, 256, 10), 45},
		{driven(1, 2, 600, 90), driven(2, 3, 900, 135), hit(200, 100, 10), 0},
		{driven(1, 2, 600, 90), driven(2, 3, -900, 0), hit(256, 0, 10), 600},
		{driven(1, 0, 0, 0), driven(2, 3, -900, 0), hit(256, 0, 10), 300},
		{driven(1, 0, 0, 0), driven(2, 0, 0, 0), hit(256, 0, 10), 0},
		// cut towards 0, on either side
		{driven(1, 1, 3, 0), driven(2, 1, 0, 0), hit(255, 0, 0), 2},
		{driven(1, 1, -3, 0), driven(2, 1, 0, 0), hit(255, 0, 0), -2},
		{driven(1, 1, 1, 0), driven(2, 1, 0, 0), hit(255, 0, 0), 0},
		{driven(1, 1, 1, 0), driven(2, 1, 0, 0), hit(0, 0, 0), 0},
		// at the limits
		{driven(1, 1, most, most), driven(2, 1, -most, -most), hit(256, 256, 0), 80000000},
		{driven(1, 1, -most, -most), driven(2, 1, most, most), hit(256, 256, 0), -80000000},
		// the same Id, or a greater one first
		{driven(2, 1, 100, 0), driven(2, 1, 0, 0), hit(256, 0, 0), 100},
		{driven(9, 1, 100, 0), driven(2, 1, 0, 0), hit(256, 0, 0), 100},
	} {
		if got := impl.Closing(c.a, c.b, c.h); got != c.want {
			t.Errorf("Closing(%v, %v, %v) = %d, not %d", c.a, c.b, c.h, got, c.want)
		}
	}
}

func TestP39And40WhatIsNotOk(t *testing.T) {
	a, b := driven(1, 1, 900, 0), driven(2, 1, -900, 0)
	check := func(c pushCase) {
		t.Helper()
		if c.closing() != 0 || c.push(true) != (impl.Vec{}) || c.push(false) != (impl.Vec{}) {
			t.Errorf("%v are not ok: %d, %v, %v", c, c.closing(), c.push(true), c.push(false))
		}
	}
	for _, h := range badHits() {
		check(pushCase{a, b, h})
	}
	for _, bad := range badBodies() {
		for _, w := range []impl.Vec{{X: 256}, {X: -256}, {Y: 256}, {Y: -256}} {
			check(pushCase{a, bad, impl.Hit{Way: w}})
			check(pushCase{bad, b, impl.Hit{Way: w}})
			check(pushCase{bad, bad, impl.Hit{Way: w}})
		}
	}
	for _, h := range goodHits() {
		if got := impl.Closing(a, b, h); got != 1800*h.Way.X/256 {
			t.Errorf("Closing by %v = %d", h, got)
		}
	}
}

func TestP40PushesAreAsTheDocumentSays(t *testing.T) {
	pushed := 0
	for _, c := range pushCases() {
		for _, bounce := range []bool{true, false} {
			got := c.push(bounce)
			if want := pushByWords(c.a, c.b, c.h, bounce); got != want {
				t.Errorf("PushOf%v, %t = %v, not %v", c, bounce, got, want)
			}
			if got != (impl.Vec{}) {
				pushed++
			}
			if got != (impl.Vec{}) && c.closing() <= 0 {
				t.Errorf("PushOf%v, %t = %v, and they do not come nearer", c, bounce, got)
			}
		}
	}
	if pushed < 5000 {
		t.Errorf("only %d pushes", pushed)
	}
}

// sameSide: whether a number is 0, or of the same side of 0 as another one.
func sameSide(n int, other int) bool {
	return n == 0 || n > 0 && other > 0 || n < 0 && other < 0
}

func TestP40WithoutRubbingAPushGoesAlongTheWay(t *testing.T) {
	for _, c := range pushCases() {
		c.a.Rub = 0
		short, long := c.push(false), c.push(true)
		for _, p := range []impl.Vec{short, long} {
			if !sameSide(p.X, c.h.Way.X) || !sameSide(p.Y, c.h.Way.Y) {
				t.Errorf("PushOf%v = %v does not go along", c, p)
			}
			// across the way there is only what the cutting leaves, as long as no number was held
			if off := p.X*c.h.Way.Y - p.Y*c.h.Way.X; distance(p.X, 0) < impl.DriveMax && distance(p.Y, 0) < impl.DriveMax && distance(off, 0) > 512 {
				t.Errorf("PushOf%v = %v goes %d across", c, p, off)
			}
		}
		if distance(long.X, 0) < distance(short.X, 0) || distance(long.Y, 0) < distance(short.Y, 0) {
			t.Errorf("PushOf%v = %v, and with a bounce %v", c, short, long)
		}
	}
}

func TestP40SomePushes(t *testing.T) {
	most := impl.DriveMax
	with := func(b impl.Body, bounce int, rub int) impl.Body {
		b.Bounce, b.Rub = bounce, rub
		return b
	}
	for i, c := range []struct {
		a, b        impl.Body
		h           impl.Hit
		plain, back impl.Vec
	}{
		// the greater Bounce and the lesser Rub, whoever has it
		{with(driven(1, 2, 600, 90), 128, 64), with(driven(2, 3, 0, 0), 0, 128), hit(256, 0, 0), vec(360, 54), vec(540, 54)},
		{with(driven(1, 2, 600, 90), 0, 128), with(driven(2, 3, 0, 0), 128, 64), hit(256, 0, 0), vec(360, 54), vec(540, 54)},
		// none of both, and all of it
		{with(driven(1, 1, 100, 300), 0, 0), with(driven(2, 1, 0, 0), 0, 0), hit(256, 0, 0), vec(50, 0), vec(50, 0)},
		{with(driven(1, 1, 100, 300), 256, 256), with(driven(2, 1, 0, 0), 0, 256), hit(256, 0, 0), vec(50, 50), vec(100, 100)},
		{with(driven(1, 1, 100, -300), 256, 256), with(driven(2, 1, 0, 0), 256, 256), hit(256, 0, 0), vec(50, -50), vec(100, -100)},
		{with(driven(1, 1, 100, 30), 0, 256), with(driven(2, 1, 0, 0), 0, 256), hit(256, 0, 0), vec(50, 15), vec(50, 15)},
		{with(driven(1, 1, 100, 300), 0, 0), with(driven(2, 1, 0, 0), 0, 256), hit(256, 0, 0), vec(50, 0), vec(50, 0)},
		// beside what is fixed
		{with(driven(1, 3, 600, 90), 0, 256), with(driven(2, 0, 0, 0), 64, 256), hit(256, 0, 0), vec(600, 90), vec(750, 90)},
		{with(driven(1, 0, 0, 0), 0, 256), with(driven(2, 3, -600, 90), 64, 256), hit(256, 0, 0), vec(600, -90), vec(750, -90)},
		{driven(1, 0, 0, 0), driven(2, 0, 0, 0), hit(256, 0, 0), vec(0, 0), vec(0, 0)},
		// not nearer, just not, and just so
		{with(driven(1, 2, -600, 90), 256, 256), with(driven(2, 3, 0, 0), 256, 256), hit(256, 0, 0), vec(0, 0), vec(0, 0)},
		{with(driven(1, 2, 600, 90), 256, 256), with(driven(2, 3, 900, 0), 256, 256), hit(256, 0, 0), vec(0, 0), vec(0, 0)},
		{with(driven(1, 2, 602, 90), 256, 256), with(driven(2, 3, 900, 0), 256, 256), hit(256, 0, 0), vec(1, 1), vec(2, 2)},
		{driven(1, 1, 1, 0), driven(2, 1, 0, 0), hit(256, 0, 0), vec(0, 0), vec(0, 0)},
		// both ways in one sum ahead of the cutting
		{with(driven(1, 1, 12, 0), 0, 256), with(driven(2, 0, 0, 0), 0, 256), hit(181, 181, 0), vec(11, 0), vec(11, 0)},
		// too much
		{with(driven(1, 1, most, 0), 256, 0), driven(2, 1, -most, 0), hit(256, 0, 0), vec(most, 0), vec(most, 0)},
		{with(driven(1, 1, most, most), 256, 0), driven(2, 1, -most, -most), hit(256, 256, 0), vec(most, most), vec(most, most)},
		{with(driven(1, 1, -most, -most), 256, 0), driven(2, 1, most, most), hit(-256, -256, 0), vec(-most, -most), vec(-most, -most)},
	} {
		if got := impl.PushOf(c.a, c.b, c.h, false); got != c.plain {
			t.Errorf("push %d: %v, not %v", i, got, c.plain)
		}
		if got := impl.PushOf(c.a, c.b, c.h, true); got != c.back {
			t.Errorf("push %d with a bounce: %v, not %v", i, got, c.back)
		}
	}
}

func TestP41WhatWasPushedHardlyComesNearer(t *testing.T) {
	pushed := 0
	for _, c := range pushCases() {
		// A way of which cutting left much more or less than One takes more or less than what was to be taken.
		if long := impl.VecLen(c.h.Way); long < 253 || long > 258 {
			continue
		}
		c.a.Rub = 0
		was, p := c.closing(), c.push(false)
		held := distance(p.X, 0) == impl.DriveMax || distance(p.Y, 0) == impl.DriveMax
		if p == (impl.Vec{}) || held || !wouldBe(c.a, opposite(p)) || !wouldBe(c.b, p) {
			continue
		}
		pushed++
		c.a, c.b = impl.BodyPush(c.a, opposite(p)), impl.BodyPush(c.b, p)
		if now := c.closing(); distance(now, 0) > 8+was/16 {
			t.Errorf("%v came nearer by %d, and still by %d", c, was, now)
		}
	}
	if pushed < 2000 {
		t.Errorf("only %d pushes", pushed)
	}
}

func TestP42AllArePushedAsTheDocumentSays(t *testing.T) {
	pushed := 0
	for _, c := range crowds() {
		got, want := impl.PushAll(c.list, c.contacts), pushAllByWords(c.list, c.contacts)
		if !slices.Equal(got, want) {
			t.Errorf("PushAll(%v, %v) = %v, not %v", c.list, c.contacts, got, want)
		}
		if !slices.Equal(got, c.list) {
			pushed++
		}
		if !impl.BodiesOk(got) {
			t.Errorf("PushAll(%v, %v) = %v is not ok", c.list, c.contacts, got)
		}
	}
	if pushed < 300 {
		t.Errorf("only %d crowds were pushed", pushed)
	}
}

func TestP42NothingIsLostOfWhatIsPushed(t *testing.T) {
	for _, c := range crowds() {
		list := slices.Clone(c.list)
		for i := range list {
			list[i].Mass = max(1, list[i].Mass)
		}
		got := impl.PushAll(list, c.contacts)
		if impl.Drives(got) != impl.Drives(list) {
			t.Errorf("PushAll(%v, %v) = %v: %v were %v", list, c.contacts, got, impl.Drives(got), impl.Drives(list))
		}
		for i, b := range got {
			want := list[i]
			want.Drive, want.Quiet = b.Drive, b.Quiet
			if b != want || b.Quiet != 0 && b.Quiet != list[i].Quiet {
				t.Errorf("PushAll made %v of %v", b, list[i])
			}
		}
		if got := impl.PushAll(list, nil); !slices.Equal(got, list) {
			t.Errorf("PushAll(%v) without contacts = %v", list, got)
		}
	}
}

func checkPushAll(t *testing.T, a impl.Body, b impl.Body, h impl.Hit, first impl.Vec, second impl.Vec) {
	t.Helper()
	got := impl.PushAll([]impl.Body{a, b}, []impl.Contact{{A: 0, B: 1, Hit: h}})
	if len(got) != 2 || got[0].Drive != first || got[1].Drive != second {
		t.Errorf("PushAll(%v, %v by %v) = %v, not %v, %v", a, b, h, got, first, second)
	}
	turned := impl.PushAll([]impl.Body{a, b}, []impl.Contact{{A: 1, B: 0, Hit: hit(-h.Way.X, -h.Way.Y, h.Deep)}})
	if !slices.Equal(turned, got) {
		t.Errorf("PushAll(%v, %v by %v) = %v, and turned %v", a, b, h, got, turned)
	}
}

func TestP42APushThatWouldBeTooMuch(t *testing.T) {
	most := impl.DriveMax
	right, left := hit(256, 0, 0), hit(-256, 0, 0)
	spring := func(b impl.Body) impl.Body {
		b.Bounce = impl.One
		return b
	}
	// just to the limit, with a bounce
	checkPushAll(t, spring(driven(1, 1, most, 0)), driven(2, 1, 0, 0), right, vec(0, 0), vec(most, 0))
	checkPushAll(t, spring(driven(1, 1, -most, 0)), driven(2, 1, 0, 0), left, vec(0, 0), vec(-most, 0))
	checkPushAll(t, spring(driven(1, 2, most, 0)), driven(2, 3, 0, 0), right, vec(0, 0), vec(most, 0))
	// one past it, so that only what does not bounce is pushed
	checkPushAll(t, spring(driven(1, 2, most, 0)), driven(2, 3, 1, 0), right, vec(8000000, 0), vec(12000001, 0))
	checkPushAll(t, spring(driven(1, 2, -most, 0)), driven(2, 3, -1, 0), left, vec(-8000000, 0), vec(-12000001, 0))
	// the second past it, in all rounds
	checkPushAll(t, driven(1, 1, most, 0), driven(2, 1000, most-1000, 0), right, vec(most, 0), vec(most-1000, 0))
	checkPushAll(t, driven(1, 1, -most, 0), driven(2, 1000, 1000-most, 0), left, vec(-most, 0), vec(1000-most, 0))
	// the first past it, in all rounds
	checkPushAll(t, driven(1, 1000, 1000-most, 0), driven(2, 1, -most, 0), right, vec(1000-most, 0), vec(-most, 0))
	checkPushAll(t, driven(1, 1000, 0, 1000-most), driven(2, 1, 0, -most), hit(0, 256, 0), vec(0, 1000-most), vec(0, -most))
	// what is fixed is not asked
	checkPushAll(t, spring(driven(1, 1, most, 0)), driven(2, 0, 0, 0), right, vec(0, 0), vec(0, 0))
	checkPushAll(t, driven(1, 0, 0, 0), spring(driven(2, 1, -most/2, 0)), right, vec(0, 0), vec(most/2, 0))
}

func TestP42APushBehindWhichNothingIsDriven(t *testing.T) {
	// To be driven by nothing is to be driven, too: it is within the limits.
	checkPushAll(t, driven(1, 1, 100, 0), driven(2, 1, -100, 0), hit(256, 0, 0), vec(0, 0), vec(0, 0))
	checkPushAll(t, driven(1, 5, 700, 0), driven(2, 0, 0, 0), hit(256, 0, 0), vec(0, 0), vec(0, 0))
	checkPushAll(t, driven(1, 0, 0, 0), driven(2, 5, 0, -700), hit(0, 256, 0), vec(0, 0), vec(0, 0))
}

func TestP42OnlyTheFirstRoundBounces(t *testing.T) {
	spring := driven(1, 1, 1000, 0)
	spring.Bounce = 128
	middle, wall := driven(2, 1, 0, 0), driven(3, 0, 0, 0)
	wall.Bounce = 64
	list := []impl.Body{spring, middle, wall}
	contacts := []impl.Contact{{A: 0, B: 1, Hit: hit(256, 0, 0)}, {A: 1, B: 2, Hit: hit(256, 0, 0)}}
	// 1000 0, 250 750, 250 -187 | 32 31, 32 0 | 16 16, 16 0 | 8 8, 8 0
	got := impl.PushAll(list, contacts)
	if len(got) != 3 || got[0].Drive != vec(8, 0) || got[1].Drive != vec(0, 0) || got[2] != wall {
		t.Errorf("PushAll = %v", got)
	}
}

func TestP42WhatIsPushedWakes(t *testing.T) {
	quiet := driven(1, 1, 400, 0)
	quiet.Quiet = 5
	sleeper := asleep(driven(2, 1, 0, 0))
	got := impl.PushAll([]impl.Body{quiet, sleeper}, []impl.Contact{{A: 0, B: 1, Hit: hit(256, 0, 0)}})
	if len(got) != 2 || got[0].Quiet != 0 || got[1].Quiet != 0 || got[1].Drive != vec(200, 0) {
		t.Errorf("a sleeper that was pushed: %v", got)
	}
	// what is not pushed sleeps on
	for _, drive := range []int{-400, 1, 0} {
		quiet.Drive.X = drive
		list := []impl.Body{quiet, sleeper}
		if got := impl.PushAll(list, []impl.Contact{{A: 0, B: 1, Hit: hit(256, 0, 0)}}); !slices.Equal(got, list) {
			t.Errorf("PushAll(%v) = %v", list, got)
		}
	}
}

func TestP42And44ContactsThatAreNotOk(t *testing.T) {
	for _, c := range badCrowds() {
		if got := impl.PushAll(c.list, c.contacts); len(got) != 0 {
			t.Errorf("PushAll(%v, %v) = %v", c.list, c.contacts, got)
		}
		if got := impl.Apart(c.list, c.contacts); len(got) != 0 {
			t.Errorf("Apart(%v, %v) = %v", c.list, c.contacts, got)
		}
	}
	most := crowd{balls(4), anyContacts(fixed(), 4, 144)}
	if len(impl.PushAll(most.list, most.contacts)) != 4 || len(impl.Apart(most.list, most.contacts)) != 4 {
		t.Error("as many contacts as there may be")
	}
	for _, h := range goodHits() {
		if k := []impl.Contact{{A: 3, B: 0, Hit: h}}; len(impl.PushAll(most.list, k)) != 4 || len(impl.Apart(most.list, k)) != 4 {
			t.Errorf("%v is ok", h)
		}
	}
	if len(impl.PushAll(nil, nil)) != 0 || len(impl.Apart(nil, nil)) != 0 {
		t.Error("no bodies")
	}
}

func TestP43OnlyWhatTouchesIsPushed(t *testing.T) {
	for _, c := range crowds() {
		touched := make([]bool, len(c.list))
		for _, k := range c.contacts {
			touched[k.A], touched[k.B] = true, true
		}
		pushed, moved := impl.PushAll(c.list, c.contacts), impl.Apart(c.list, c.contacts)
		for i, b := range c.list {
			if !touched[i] && (pushed[i] != b || moved[i] != b) {
				t.Errorf("%v of no contact is %v, %v", b, pushed[i], moved[i])
			}
		}
	}
	alone := driven(9, 1, 500, 0)
	list := []impl.Body{driven(1, 1, 900, 0), driven(2, 1, -900, 0), alone}
	k := []impl.Contact{{A: 0, B: 1, Hit: hit(256, 0, 1000)}}
	if pushed, moved := impl.PushAll(list, k), impl.Apart(list, k); pushed[2] != alone || moved[2] != alone || pushed[0] == list[0] || moved[0] == list[0] {
		t.Errorf("%v, %v", pushed, moved)
	}
}

func TestP44AllAreMovedApartAsTheDocumentSays(t *testing.T) {
	moved := 0
	for _, c := range crowds() {
		got, want := impl.Apart(c.list, c.contacts), apartByWords(c.list, c.contacts)
		if !slices.Equal(got, want) {
			t.Errorf("Apart(%v, %v) = %v, not %v", c.list, c.contacts, got, want)
		}
		if !slices.Equal(got, c.list) {
			moved++
		}
		if !impl.BodiesOk(got) {
			t.Errorf("Apart(%v, %v) = %v is not ok", c.list, c.contacts, got)
		}
		for i, b := range c.list {
			if b.Mass == 0 && got[i] != b {
				t.Errorf("%v is fixed, and is %v", b, got[i])
			}
		}
	}
	if moved < 300 {
		t.Errorf("only %d crowds were moved", moved)
	}
}

func TestP44WhatIsMovedApartIsNoDeeper(t *testing.T) {
	check := func(list []impl.Body, k impl.Contact) {
		a, b := list[k.A], list[k.B]
		got := impl.Apart(list, []impl.Contact{k})
		x, y := got[k.A], got[k.B]
		if now, ok := impl.Touch(x.Shape, x.At, y.Shape, y.At); ok && now.Deep > k.Hit.Deep+2 {
			t.Errorf("%v and %v, %d deep, are %d deep", a, b, k.Hit.Deep, now.Deep)
		}
	}
	for _, list := range scenes() {
		for _, k := range impl.Contacts(list) {
			check(list, k)
		}
	}
	r := fixed()
	for _, c := range closeShapes() {
		a, b := anyBody(r, 1, 9, 9), anyBody(r, 2, 9, 9)
		a.Shape, a.At, b.Shape, b.At = c.a, c.at, c.b, c.bt
		for _, k := range impl.Contacts([]impl.Body{a, b}) {
			check([]impl.Body{a, b}, k)
		}
	}
}

func TestP44HowFarSomeAreMoved(t *testing.T) {
	far, wide := impl.FarMax, impl.WideMax
	body := func(id int, mass int, at impl.Vec) impl.Body {
		b := impl.Body{Id: id, Shape: round(50), At: at, Mass: mass}
		if mass > 0 {
			b.Drive, b.Quiet = vec(70, -80), 3
		}
		return b
	}
	for i, c := range []struct {
		a, b   int
		at, bt impl.Vec
		h      impl.Hit
		x, y   impl.Vec
		dx, dy impl.Vec
	}{
		// not deep enough, and just so
		{1, 1, vec(0, 0), vec(9, 0), hit(256, 0, 0), vec(0, 0), vec(9, 0), vec(70, -80), vec(70, -80)},
		{1, 0, vec(0, 0), vec(9, 0), hit(256, 0, 64), vec(0, 0), vec(9, 0), vec(70, -80), vec(0, 0)},
		{1, 0, vec(0, 0), vec(9, 0), hit(256, 0, 65), vec(0, 0), vec(9, 0), vec(70, -80), vec(0, 0)},
		{1, 0, vec(0, 0), vec(9, 0), hit(256, 0, 67), vec(0, 0), vec(9, 0), vec(70, -80), vec(0, 0)},
		{1, 0, vec(0, 0), vec(9, 0), hit(256, 0, 68), vec(-1, 0), vec(9, 0), vec(70, -80), vec(0, 0)},
		{0, 1, vec(0, 0), vec(9, 0), hit(256, 0, 68), vec(0, 0), vec(10, 0), vec(0, 0), vec(70, -80)},
		{0, 0, vec(0, 0), vec(9, 0), hit(256, 0, 9999), vec(0, 0), vec(9, 0), vec(0, 0), vec(0, 0)},
		// as deep as may be
		{1, 0, vec(0, 0), vec(9, 0), hit(256, 0, 4*wide), vec(-25584, 0), vec(9, 0), vec(70, -80), vec(0, 0)},
		{1, 1, vec(0, 0), vec(9, 0), hit(0, -256, 4*wide), vec(0, 12792), vec(9, -12792), vec(70, -80), vec(70, -80)},
		// the lighter one goes further, each cut by itself
		{1, 2, vec(0, 0), vec(9, 0), hit(256, 0, 64+44), vec(-7, 0), vec(12, 0), vec(70, -80), vec(70, -80)},
		{2, 1, vec(0, 0), vec(9, 0), hit(256, 0, 64+44), vec(-3, 0), vec(16, 0), vec(70, -80), vec(70, -80)},
		{1, 1000, vec(0, 0), vec(9, 0), hit(256, 0, 64+400), vec(-99, 0), vec(9, 0), vec(70, -80), vec(70, -80)},
		// ways cut towards 0, on either side
		{1, 0, vec(0, 0), vec(9, 0), hit(181, -181, 64+40), vec(-7, 7), vec(9, 0), vec(70, -80), vec(0, 0)},
		{0, 1, vec(0, 0), vec(9, 0), hit(181, -181, 64+40), vec(0, 0), vec(16, -7), vec(0, 0), vec(70, -80)},
		{1, 1, vec(0, 0), vec(9, 0), hit(0, 0, 9999), vec(0, 0), vec(9, 0), vec(70, -80), vec(70, -80)},
		// the end of the world
		{1, 0, vec(10-far, 0), vec(9, 0), hit(256, 0, 64+40), vec(-far, 0), vec(9, 0), vec(70, -80), vec(0, 0)},
		{1, 0, vec(9-far, 0), vec(9, 0), hit(256, 0, 64+40), vec(-far, 0), vec(9, 0), vec(0, -80), vec(0, 0)},
		{0, 1, vec(0, 0), vec(far, far), hit(256, 256, 64+40), vec(0, 0), vec(far, far), vec(0, 0), vec(0, 0)},
		{1, 1, vec(0, far), vec(0, far-9), hit(0, -256, 64+80), vec(0, far), vec(0, far-19), vec(70, 0), vec(70, -80)},
	} {
		list := []impl.Body{body(1, c.a, c.at), body(2, c.b, c.bt)}
		want := []impl.Body{changed(list[0], func(b *impl.Body) { b.At, b.Drive = c.x, c.dx }), changed(list[1], func(b *impl.Body) { b.At, b.Drive = c.y, c.dy })}
		if got := impl.Apart(list, []impl.Contact{{A: 0, B: 1, Hit: c.h}}); !slices.Equal(got, want) {
			t.Errorf("apart %d: %v, not %v", i, got, want)
		}
		turned := []impl.Contact{{A: 1, B: 0, Hit: hit(-c.h.Way.X, -c.h.Way.Y, c.h.Deep)}}
		if got := impl.Apart(list, turned); !slices.Equal(got, want) {
			t.Errorf("apart %d turned: %v, not %v", i, got, want)
		}
	}
}

func TestP44WhatSleepsIsMovedAsleep(t *testing.T) {
	list := []impl.Body{asleep(driven(1, 1, 0, 0)), asleep(driven(2, 1, 0, 0))}
	got := impl.Apart(list, []impl.Contact{{A: 0, B: 1, Hit: hit(256, 0, 64+80)}})
	want := []impl.Body{changed(list[0], func(b *impl.Body) { b.At.X -= 10 }), changed(list[1], func(b *impl.Body) { b.At.X += 10 })}
	if !slices.Equal(got, want) {
		t.Errorf("Apart = %v", got)
	}
}

func TestP42And44ArgumentsAreLeftAndNotShared(t *testing.T) {
	for _, c := range append(crowds(), badCrowds()...) {
		list, contacts := spare(c.list, plain()), spare(c.contacts, impl.Contact{A: 1, Hit: hit(5, 5, 500)})
		beforeList, beforeContacts := slices.Clone(whole(list)), slices.Clone(whole(contacts))
		pushed, moved := impl.PushAll(list, contacts), impl.Apart(list, contacts)
		wantPushed, wantMoved := slices.Clone(pushed), slices.Clone(moved)
		clear(whole(pushed))
		if !slices.Equal(moved, wantMoved) {
			t.Error("PushAll and Apart share memory")
		}
		clear(whole(moved))
		if !slices.Equal(whole(list), beforeList) || !slices.Equal(whole(contacts), beforeContacts) {
			t.Errorf("something was written into %v, %v", beforeList, beforeContacts)
		}
		if !slices.Equal(impl.PushAll(list, contacts), wantPushed) || !slices.Equal(impl.Apart(list, contacts), wantMoved) {
			t.Errorf("an answer of %v was kept", c)
		}
	}
}
