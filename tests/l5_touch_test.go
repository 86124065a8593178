package tests

import (
	"math"
	"math/rand/v2"
	"testing"

	"loop.example/parquetry/impl"
)

func vec(x int, y int) impl.Vec {
	return impl.Vec{X: x, Y: y}
}

func hit(x int, y int, deep int) impl.Hit {
	return impl.Hit{Way: vec(x, y), Deep: deep}
}

func ray(x int, y int, u int, v int) impl.Ray {
	return impl.Ray{From: vec(x, y), Way: vec(u, v)}
}

// anyShape: round or a box, as often small as great.
func anyShape(r *rand.Rand, most int) impl.Shape {
	size := func() int { return 1 + r.IntN(1+r.IntN(most)) }
	if r.IntN(2) == 0 {
		return round(size())
	}
	return slab(size(), size())
}

// near: a place about another one, at most so far off.
func near(r *rand.Rand, at impl.Vec, far int) impl.Vec {
	most := impl.FarMax
	x, y := at.X+r.IntN(2*far+1)-far, at.Y+r.IntN(2*far+1)-far
	return vec(max(-most, min(most, x)), max(-most, min(most, y)))
}

// touchCase: two shapes at places.
type touchCase struct {
	a  impl.Shape
	at impl.Vec
	b  impl.Shape
	bt impl.Vec
}

func (c touchCase) touch() (impl.Hit, bool) {
	return impl.Touch(c.a, c.at, c.b, c.bt)
}

func (c touchCase) turned() touchCase {
	return touchCase{c.b, c.bt, c.a, c.at}
}

// closeShapes: shapes of all kinds about each other, at the edges of the world too.
func closeShapes() []touchCase {
	var list []touchCase
	r := fixed()
	for range 20000 {
		most := []int{3, 40, 600, impl.WideMax}[r.IntN(4)]
		at := places()[r.IntN(len(places()))]
		c := touchCase{a: anyShape(r, most), at: at, b: anyShape(r, most)}
		c.bt = near(r, at, 1+c.a.Wide+c.b.Wide)
		list = append(list, c)
	}
	return list
}

// smallShapes: each of some small shapes beside each other one, at all places of a grid.
func smallShapes() []touchCase {
	var list []touchCase
	few := []impl.Shape{round(1), round(2), round(4), slab(1, 1), slab(3, 1), slab(2, 4)}
	for _, a := range few {
		for _, b := range few {
			for x := -9; x <= 9; x++ {
				for y := -9; y <= 9; y++ {
					list = append(list, touchCase{a, vec(5, -3), b, vec(5+x, y-3)})
				}
			}
		}
	}
	return list
}

// sidesHit: the hit of two boxes that meet, side by side in the document's order.
func sidesHit(a impl.Box, b impl.Box) impl.Hit {
	h := hit(256, 0, a.High.X-b.Low.X)
	if deep := b.High.X - a.Low.X; deep < h.Deep {
		h = hit(-256, 0, deep)
	}
	if deep := a.High.Y - b.Low.Y; deep < h.Deep {
		h = hit(0, 256, deep)
	}
	if deep := b.High.Y - a.Low.Y; deep < h.Deep {
		h = hit(0, -256, deep)
	}
	return h
}

// pointsHit: the hit of two points with so much width together.
func pointsHit(from impl.Vec, to impl.Vec, wide int) (impl.Hit, bool) {
	off := vec(to.X-from.X, to.Y-from.Y)
	if off.X*off.X+off.Y*off.Y > wide*wide {
		return impl.Hit{}, false
	}
	return impl.Hit{Way: impl.VecUnit(off), Deep: wide - impl.VecLen(off)}, true
}

// touchByWords: what Touch must answer of what is ok, as the document says it.
func touchByWords(c touchCase) (impl.Hit, bool) {
	first, second := impl.ShapeBounds(c.a, c.at), impl.ShapeBounds(c.b, c.bt)
	switch {
	case c.a.Kind == impl.ShapeRound && c.b.Kind == impl.ShapeRound:
		return pointsHit(c.at, c.bt, c.a.Wide+c.b.Wide)
	case c.a.Kind == impl.ShapeRound:
		h, ok := touchByWords(c.turned())
		return impl.Hit{Way: opposite(h.Way), Deep: h.Deep}, ok
	case c.b.Kind == impl.ShapeBox:
		if !impl.BoxMeets(first, second) {
			return impl.Hit{}, false
		}
		return sidesHit(first, second), true
	case inBox(first, c.bt):
		h := sidesHit(first, impl.Box{Low: c.bt, High: c.bt})
		h.Deep += c.b.Wide
		return h, true
	}
	return pointsHit(impl.BoxNear(first, c.bt), c.bt, c.b.Wide)
}

func TestP24HitsAreAsTheDocumentSays(t *testing.T) {
	for _, c := range append(closeShapes(), smallShapes()...) {
		got, ok := c.touch()
		want, wantOk := touchByWords(c)
		if got != want || ok != wantOk {
			t.Errorf("Touch%v = %v, %t, not %v, %t", c, got, ok, want, wantOk)
		}
	}
}

func TestP24ShapesTouchEitherWayRound(t *testing.T) {
	for _, c := range append(closeShapes(), smallShapes()...) {
		got, ok := c.touch()
		other, also := c.turned().touch()
		if ok != also || got.Deep != other.Deep || got.Deep < 0 {
			t.Errorf("Touch%v = %v, %t, and turned %v, %t", c, got, ok, other, also)
		}
		if c.a.Kind != c.b.Kind && got.Way != opposite(other.Way) {
			t.Errorf("Touch%v goes %v, and turned %v", c, got.Way, other.Way)
		}
		if ok && !impl.BoxMeets(impl.ShapeBounds(c.a, c.at), impl.ShapeBounds(c.b, c.bt)) {
			t.Errorf("Touch%v, and bounds do not meet", c)
		}
		if long := impl.VecLen(got.Way); ok && (long < 250 || long > 363) {
			t.Errorf("Touch%v goes %v", c, got.Way)
		}
	}
}

func checkTouch(t *testing.T, c touchCase, want impl.Hit) {
	t.Helper()
	if got, ok := c.touch(); !ok || got != want {
		t.Errorf("Touch%v = %v, %t, not %v", c, got, ok, want)
	}
}

func checkNoTouch(t *testing.T, c touchCase) {
	t.Helper()
	if got, ok := c.touch(); ok || got != (impl.Hit{}) {
		t.Errorf("Touch%v = %v, %t", c, got, ok)
	}
}

func TestP24TheSameMiddle(t *testing.T) {
	for _, at := range places() {
		checkTouch(t, touchCase{round(256), at, round(100), at}, hit(0, 256, 356))
		checkTouch(t, touchCase{round(100), at, round(256), at}, hit(0, 256, 356))
		checkTouch(t, touchCase{slab(300, 100), at, slab(300, 100), at}, hit(0, 256, 200))
		checkTouch(t, touchCase{slab(100, 300), at, slab(100, 300), at}, hit(256, 0, 200))
		checkTouch(t, touchCase{slab(50, 50), at, slab(20, 20), at}, hit(256, 0, 70))
		checkTouch(t, touchCase{slab(300, 100), at, round(10), at}, hit(0, 256, 110))
		checkTouch(t, touchCase{round(10), at, slab(300, 100), at}, hit(0, -256, 110))
		checkTouch(t, touchCase{slab(100, 300), at, round(10), at}, hit(256, 0, 110))
		checkTouch(t, touchCase{round(10), at, slab(100, 300), at}, hit(-256, 0, 110))
		most := impl.WideMax
		checkTouch(t, touchCase{round(most), at, round(most), at}, hit(0, 256, 2*most))
	}
}

func TestP24SidesThatJustMeet(t *testing.T) {
	checkTouch(t, touchCase{slab(30, 10), vec(0, 0), slab(20, 5), vec(50, 3)}, hit(256, 0, 0))
	checkTouch(t, touchCase{slab(30, 10), vec(0, 0), slab(20, 5), vec(-50, 3)}, hit(-256, 0, 0))
	checkTouch(t, touchCase{slab(30, 10), vec(0, 0), slab(20, 5), vec(3, 15)}, hit(0, 256, 0))
	checkTouch(t, touchCase{slab(30, 10), vec(0, 0), slab(20, 5), vec(3, -15)}, hit(0, -256, 0))
	checkNoTouch(t, touchCase{slab(30, 10), vec(0, 0), slab(20, 5), vec(51, 3)})
	checkNoTouch(t, touchCase{slab(30, 10), vec(0, 0), slab(20, 5), vec(-51, 3)})
	checkNoTouch(t, touchCase{slab(30, 10), vec(0, 0), slab(20, 5), vec(3, 16)})
	checkNoTouch(t, touchCase{slab(30, 10), vec(0, 0), slab(20, 5), vec(3, -16)})
	checkTouch(t, touchCase{round(300), vec(0, 0), round(200), vec(300, 400)}, hit(153, 204, 0))
	checkTouch(t, touchCase{round(300), vec(0, 0), round(200), vec(-500, 0)}, hit(-256, 0, 0))
	checkNoTouch(t, touchCase{round(300), vec(0, 0), round(200), vec(300, 401)})
	checkNoTouch(t, touchCase{round(300), vec(0, 0), round(200), vec(-501, 0)})
	checkTouch(t, touchCase{slab(30, 10), vec(0, 0), round(50), vec(60, 50)}, hit(153, 204, 0))
	checkTouch(t, touchCase{round(50), vec(60, 50), slab(30, 10), vec(0, 0)}, hit(-153, -204, 0))
	checkNoTouch(t, touchCase{slab(30, 10), vec(0, 0), round(50), vec(60, 51)})
	checkNoTouch(t, touchCase{round(50), vec(60, 51), slab(30, 10), vec(0, 0)})
}

func TestP24LeastDeepOnTwoSides(t *testing.T) {
	square := slab(10, 10)
	checkTouch(t, touchCase{square, vec(0, 0), square, vec(15, 15)}, hit(256, 0, 5))
	checkTouch(t, touchCase{square, vec(0, 0), square, vec(15, -15)}, hit(256, 0, 5))
	checkTouch(t, touchCase{square, vec(0, 0), square, vec(-15, 15)}, hit(-256, 0, 5))
	checkTouch(t, touchCase{square, vec(0, 0), square, vec(-15, -15)}, hit(-256, 0, 5))
	checkTouch(t, touchCase{square, vec(0, 0), square, vec(20, 20)}, hit(256, 0, 0))
	checkTouch(t, touchCase{square, vec(0, 0), square, vec(-20, -20)}, hit(-256, 0, 0))
	checkTouch(t, touchCase{slab(90, 10), vec(0, 0), slab(50, 10), vec(3, 0)}, hit(0, 256, 20))
	checkTouch(t, touchCase{square, vec(0, 0), round(4), vec(7, 7)}, hit(256, 0, 7))
	checkTouch(t, touchCase{square, vec(0, 0), round(4), vec(-7, 7)}, hit(-256, 0, 7))
	checkTouch(t, touchCase{round(4), vec(7, 7), square, vec(0, 0)}, hit(-256, 0, 7))
}

func TestP24APointOnABoxsSide(t *testing.T) {
	a := slab(30, 10)
	checkTouch(t, touchCase{a, vec(0, 0), round(7), vec(30, 0)}, hit(256, 0, 7))
	checkTouch(t, touchCase{a, vec(0, 0), round(7), vec(-30, 2)}, hit(-256, 0, 7))
	checkTouch(t, touchCase{a, vec(0, 0), round(7), vec(4, 10)}, hit(0, 256, 7))
	checkTouch(t, touchCase{a, vec(0, 0), round(7), vec(4, -10)}, hit(0, -256, 7))
	checkTouch(t, touchCase{a, vec(0, 0), round(7), vec(30, 10)}, hit(256, 0, 7))
	checkTouch(t, touchCase{a, vec(0, 0), round(7), vec(31, 0)}, hit(256, 0, 6))
	checkTouch(t, touchCase{a, vec(0, 0), round(7), vec(4, 11)}, hit(0, 256, 6))
	checkTouch(t, touchCase{a, vec(0, 0), round(7), vec(31, 11)}, hit(256, 256, 6))
	checkTouch(t, touchCase{round(7), vec(31, 11), a, vec(0, 0)}, hit(-256, -256, 6))
	checkTouch(t, touchCase{a, vec(0, 0), round(7), vec(29, 0)}, hit(256, 0, 8))
}

func TestP24EdgesOfTheWorld(t *testing.T) {
	far, most := impl.FarMax, impl.WideMax
	checkTouch(t, touchCase{slab(most, most), vec(far, far), slab(most, most), vec(far-2*most, far)}, hit(-256, 0, 0))
	checkTouch(t, touchCase{slab(most, most), vec(-far, -far), round(most), vec(-far, 2*most-far)}, hit(0, 256, 0))
	checkTouch(t, touchCase{round(most), vec(-far, far), round(most), vec(2*most-far, far)}, hit(256, 0, 0))
	checkNoTouch(t, touchCase{round(most), vec(-far, -far), round(most), vec(far, far)})
	checkNoTouch(t, touchCase{slab(most, most), vec(-far, far), slab(most, most), vec(far, -far)})
	checkNoTouch(t, touchCase{slab(most, most), vec(-far, far), round(most), vec(far, -far)})
}

func TestP24WhatIsNotOkDoesNotTouch(t *testing.T) {
	for _, good := range goodShapes() {
		for _, bad := range badShapes() {
			checkNoTouch(t, touchCase{good, vec(0, 0), bad, vec(0, 0)})
			checkNoTouch(t, touchCase{bad, vec(0, 0), good, vec(0, 0)})
			checkNoTouch(t, touchCase{bad, vec(0, 0), bad, vec(0, 0)})
		}
		for _, other := range goodShapes() {
			for _, p := range noPlaces() {
				inside := vec(max(-impl.FarMax, min(impl.FarMax, p.X)), max(-impl.FarMax, min(impl.FarMax, p.Y)))
				checkNoTouch(t, touchCase{good, p, other, p})
				checkNoTouch(t, touchCase{good, p, other, inside})
				checkNoTouch(t, touchCase{good, inside, other, p})
			}
		}
	}
}

func TestP25ShapesWithAPointInCommonTouch(t *testing.T) {
	for _, c := range smallShapes() {
		common := false
		for x := -6; x <= 16 && !common; x++ {
			for y := -14; y <= 8 && !common; y++ {
				p := vec(x, y)
				common = impl.ShapeHas(c.a, c.at, p) && impl.ShapeHas(c.b, c.bt, p)
			}
		}
		if _, ok := c.touch(); common && !ok {
			t.Errorf("%v have a point in common", c)
		}
	}
	for _, c := range closeShapes() {
		points := []impl.Vec{c.at, c.bt, impl.BoxNear(impl.ShapeBounds(c.a, c.at), c.bt), impl.BoxNear(impl.ShapeBounds(c.b, c.bt), c.at)}
		for part := range 17 {
			points = append(points, vec(c.at.X+(c.bt.X-c.at.X)*part/16, c.at.Y+(c.bt.Y-c.at.Y)*part/16))
		}
		_, ok := c.touch()
		for _, p := range points {
			if impl.ShapeHas(c.a, c.at, p) && impl.ShapeHas(c.b, c.bt, p) && !ok {
				t.Errorf("%v have %v in common", c, p)
			}
		}
	}
}

func TestP26WhatIsPushedOutIsHardlyIn(t *testing.T) {
	for _, c := range append(closeShapes(), smallShapes()...) {
		h, ok := c.touch()
		moved := c
		moved.bt = impl.VecAdd(c.bt, impl.VecMul(h.Way, h.Deep))
		if !ok || distance(moved.bt.X, 0) > impl.FarMax || distance(moved.bt.Y, 0) > impl.FarMax {
			continue
		}
		if now, still := moved.touch(); still && now.Deep > 6+h.Deep/8 {
			t.Errorf("%v, %d deep, moved by %v are %d deep", c, h.Deep, h.Way, now.Deep)
		}
	}
}

// badRays: each with one thing that is not ok.
func badRays() []impl.Ray {
	over := impl.FarMax + 1
	list := []impl.Ray{{}, ray(5, 5, 0, 0), ray(0, 0, over, 0), ray(0, 0, 0, -over), ray(0, 0, math.MinInt, 1), ray(0, 0, 1, math.MaxInt)}
	for _, p := range noPlaces() {
		list = append(list, impl.Ray{From: p, Way: opposite(vec(max(-impl.FarMax, min(impl.FarMax, p.X)), 3))})
	}
	return list
}

// someRays: rays of all ways and lengths about a place, with a 0 in some.
func someRays(r *rand.Rand, at impl.Vec, count int) []impl.Ray {
	var list []impl.Ray
	for len(list) < count {
		x := impl.Ray{From: near(r, at, 1<<r.IntN(22)), Way: near(r, impl.Vec{}, 1<<r.IntN(22))}
		switch r.IntN(4) {
		case 0:
			x.Way = near(r, vec(at.X-x.From.X, at.Y-x.From.Y), 1+r.IntN(500))
		case 1:
			x.Way.X = 0
		case 2:
			x.Way.Y = 0
		}
		if x.Way != (impl.Vec{}) {
			list = append(list, x)
		}
	}
	return list
}

// isIn: whether the ray, reckoned without cutting, is in the box at T.
func isIn(x impl.Ray, part int, b impl.Box) bool {
	u, v := 256*x.From.X+part*x.Way.X, 256*x.From.Y+part*x.Way.Y
	return 256*b.Low.X <= u && u <= 256*b.High.X && 256*b.Low.Y <= v && v <= 256*b.High.Y
}

// cutDown: n divided by d, cut downwards, found another way than the program does.
func cutDown(n int, d int) int {
	q := n/d + 1
	for q*d > n && d > 0 || q*d < n && d < 0 {
		q--
	}
	return q
}

// rayByWords: what RayBox must answer of what is ok, or of bounds, as the document says it.
func rayByWords(x impl.Ray, b impl.Box) (int, bool) {
	first, last := 0, 256
	for _, c := range [][4]int{{x.From.X, x.Way.X, b.Low.X, b.High.X}, {x.From.Y, x.Way.Y, b.Low.Y, b.High.Y}} {
		from, way, nearer, further := c[0], c[1], c[2], c[3]
		if way == 0 {
			if from < nearer || from > further {
				return 0, false
			}
			continue
		}
		if way < 0 {
			nearer, further = further, nearer
		}
		first = max(first, cutDown((nearer-from)*256, way))
		last = min(last, -cutDown(-(further-from)*256, way))
	}
	if first > last {
		return 0, false
	}
	return first, true
}

func checkRayBox(t *testing.T, x impl.Ray, b impl.Box) {
	t.Helper()
	got, ok := impl.RayBox(x, b)
	if want, wantOk := rayByWords(x, b); got != want || ok != wantOk {
		t.Errorf("RayBox(%v, %v) = %d, %t, not %d, %t", x, b, got, ok, want, wantOk)
	}
	for part := range impl.One + 1 {
		if isIn(x, part, b) {
			if !ok || got > part {
				t.Errorf("RayBox(%v, %v) = %d, %t, and it is in it at %d", x, b, got, ok, part)
			}
			return
		}
	}
}

func TestP27ARayMeetsABoxNotLaterThanItIsInIt(t *testing.T) {
	r, far := fixed(), impl.FarMax
	boxes := []impl.Box{box(0, 0, 0, 0), box(-5, -3, 7, 4), box(-300, -100, 300, 100), box(1000, -2000, 90000, -500), box(-far, -far, far, far), box(far, far, far, far), box(-far, -far, 0, far)}
	for range 60 {
		boxes = append(boxes, anyBox(r, 1<<r.IntN(22)))
	}
	for _, b := range boxes {
		for _, x := range someRays(r, b.Low, 300) {
			checkRayBox(t, x, b)
		}
	}
	for _, b := range gridBoxes(-1, 1) {
		for x := -2; x <= 2; x++ {
			for y := -2; y <= 2; y++ {
				for _, w := range []impl.Vec{{X: 1}, {Y: -1}, {X: 3, Y: 3}, {X: -4, Y: 2}, {X: 256, Y: -1}, {X: -300, Y: 299}} {
					checkRayBox(t, impl.Ray{From: vec(x, y), Way: w}, b)
				}
			}
		}
	}
}

// rayAnswer: where it meets, or -1, if it does not; -2, if there is a number beside a false.
func rayAnswer(n int, ok bool) int {
	switch {
	case ok:
		return n
	case n != 0:
		return -2
	}
	return -1
}

func TestP27RaysAtTheSidesOfABox(t *testing.T) {
	b := box(0, 0, 100, 50)
	for _, c := range []struct {
		ray  impl.Ray
		want int
	}{
		// along a side, and 1 beside it
		{ray(-100, 0, 400, 0), 64}, {ray(-100, 50, 400, 0), 64}, {ray(-100, -1, 400, 0), -1}, {ray(-100, 51, 400, 0), -1},
		{ray(0, 100, 0, -200), 64}, {ray(100, 100, 0, -200), 64}, {ray(-1, 100, 0, -200), -1}, {ray(101, 100, 0, -200), -1},
		// from inside, and from a side
		{ray(50, 20, 1000, 3), 0}, {ray(50, 20, -1000, -3), 0}, {ray(80, 20, 1, 0), 0}, {ray(0, 0, 5, 5), 0}, {ray(100, 50, -7, 1), 0}, {ray(100, 50, 7, 1), 0},
		// just to a side, and not as far
		{ray(-100, 20, 100, 0), 256}, {ray(-100, 20, 99, 0), -1}, {ray(50, 150, 0, -100), 256}, {ray(50, 150, 0, -99), -1}, {ray(-100, -100, 100, 100), 256}, {ray(200, 20, -100, 0), 256},
		// away from it, and past it
		{ray(-10, 20, -100, 0), -1}, {ray(150, 20, 100, 0), -1}, {ray(50, 90, 0, 40), -1}, {ray(-100, 100, 200, 1), -1}, {ray(-60, 0, 60, 300), -1},
		// cut downwards where it begins, and upwards where it ends
		{ray(-1000, 10, 1500, 7), 170}, {ray(-1, 25, 1000, 0), 0}, {ray(101, 25, 1000, 0), 0}, {ray(104, 25, 1000, 0), -1}, {ray(101, 25, -1000, 0), 0}, {ray(-1, 25, -1000, 0), 0},
	} {
		if got := rayAnswer(impl.RayBox(c.ray, b)); got != c.want {
			t.Errorf("RayBox(%v) = %d, not %d", c.ray, got, c.want)
		}
	}
}

func TestP27WhatIsNotOkIsNotMet(t *testing.T) {
	far := impl.FarMax
	world := box(-far, -far, far, far)
	for _, x := range badRays() {
		if got := rayAnswer(impl.RayBox(x, world)); got != -1 {
			t.Errorf("RayBox(%v) = %d", x, got)
		}
	}
	noBoxes := append(badBoxes(), box(-far-1, 0, 0, 0), box(0, -far-1, 0, 0), box(0, 0, far+1, 0), box(0, 0, 0, far+1), box(-impl.FixMax, -impl.FixMax, impl.FixMax, impl.FixMax))
	for _, b := range noBoxes {
		if got := rayAnswer(impl.RayBox(ray(0, 0, 5, 5), b)); got != -1 {
			t.Errorf("RayBox of %v = %d", b, got)
		}
	}
	for _, x := range []impl.Ray{ray(far, far, -far, -far), ray(-far, far, far, 0), ray(far, -far, 0, 1)} {
		if got := rayAnswer(impl.RayBox(x, world)); got != 0 {
			t.Errorf("RayBox(%v) of the world = %d", x, got)
		}
	}
}

// roundByLooking: the first T at which the ray is in what is round, looked for at each.
func roundByLooking(x impl.Ray, at impl.Vec, wide int) int {
	for part := range 257 {
		u, v := int64(x.From.X+x.Way.X*part/256-at.X), int64(x.From.Y+x.Way.Y*part/256-at.Y)
		if u*u+v*v <= int64(wide)*int64(wide) {
			return part
		}
	}
	return -1
}

func TestP28ARayMeetsWhatIsRoundAtTheFirstPart(t *testing.T) {
	r := fixed()
	met := 0
	for _, at := range places() {
		for _, wide := range []int{1, 2, 50, 256, 3000, impl.WideMax} {
			for _, x := range someRays(r, at, 400) {
				want := roundByLooking(x, at, wide)
				if got := rayAnswer(impl.RayRound(x, at, wide)); got != want {
					t.Errorf("RayRound(%v, %v, %d) = %d, not %d", x, at, wide, got, want)
				}
				if want > 0 {
					met++
				}
			}
		}
	}
	if met < 500 {
		t.Errorf("only %d rays met something on their way", met)
	}
}

func TestP28RaysAtTheSideOfWhatIsRound(t *testing.T) {
	far := impl.FarMax
	for _, c := range []struct {
		ray  impl.Ray
		at   impl.Vec
		wide int
		want int
	}{
		// along its side, and 1 beside it
		{ray(-256, 50, 512, 0), vec(0, 0), 50, 128}, {ray(-256, -50, 512, 0), vec(0, 0), 50, 128}, {ray(-256, 51, 512, 0), vec(0, 0), 50, -1},
		// from inside, from its side, and just to its side
		{ray(0, 0, 9, 9), vec(0, 0), 50, 0}, {ray(30, 40, 9, 9), vec(0, 0), 50, 0}, {ray(30, 41, 9, 9), vec(0, 0), 50, -1}, {ray(-150, 0, 100, 0), vec(0, 0), 50, 256}, {ray(-150, 0, 99, 0), vec(0, 0), 50, -1}, {ray(30, 140, 0, -100), vec(0, 0), 50, 256},
		// cut towards 0 on either side of it
		{ray(52, 0, -3, 0), vec(0, 0), 50, 171}, {ray(-52, 0, 3, 0), vec(0, 0), 50, 171}, {ray(0, 51, 0, -1), vec(0, 0), 50, 256}, {ray(-60, 8, 20, -2), vec(0, 0), 52, 116},
		// too far on each part of its way to be in it at any
		{ray(-far, 0, far, 0), vec(-far+5000, 0), 2, -1}, {ray(-far, 0, far, 0), vec(-far+10000, 0), 1, 1},
		// past the edges of the world
		{ray(far, far-30000, 0, 60000), vec(far, far), impl.WideMax, 19}, {ray(far, far, 20, 20), vec(far, far), 5, 0}, {ray(far, 0, 300, 300), vec(far, 300), 250, 49},
	} {
		if got := rayAnswer(impl.RayRound(c.ray, c.at, c.wide)); got != c.want {
			t.Errorf("RayRound(%v, %v, %d) = %d, not %d", c.ray, c.at, c.wide, got, c.want)
		}
	}
}

func TestP28WhatIsNotOkIsNotMet(t *testing.T) {
	for _, x := range badRays() {
		for _, at := range places() {
			if got := rayAnswer(impl.RayRound(x, at, impl.WideMax)); got != -1 {
				t.Errorf("RayRound(%v, %v) = %d", x, at, got)
			}
		}
	}
	for _, wide := range []int{0, -1, -5, impl.WideMax + 1, math.MaxInt, math.MinInt} {
		if got := rayAnswer(impl.RayRound(ray(0, 0, 5, 5), vec(0, 0), wide)); got != -1 {
			t.Errorf("RayRound of %d = %d", wide, got)
		}
	}
	for _, p := range noPlaces() {
		from := vec(max(-impl.FarMax, min(impl.FarMax, p.X)), max(-impl.FarMax, min(impl.FarMax, p.Y)))
		if got := rayAnswer(impl.RayRound(impl.Ray{From: from, Way: vec(1, 1)}, p, impl.WideMax)); got != -1 {
			t.Errorf("RayRound at %v = %d", p, got)
		}
	}
}

func TestP29ARayFromAPointOfAShapeMeetsItAtOnce(t *testing.T) {
	r := fixed()
	for _, s := range goodShapes() {
		for _, at := range places() {
			for _, x := range someRays(r, at, 40) {
				x.From = at
				if got := rayAnswer(impl.RayShape(x, s, at)); got != 0 {
					t.Errorf("RayShape(%v, %v, %v) = %d", x, s, at, got)
				}
				x.From = near(r, at, s.Wide)
				if got := rayAnswer(impl.RayShape(x, s, at)); got != 0 && impl.ShapeHas(s, at, x.From) {
					t.Errorf("RayShape(%v, %v, %v) = %d", x, s, at, got)
				}
			}
		}
	}
}

func TestP29WhatMissesTheBoundsMissesTheShape(t *testing.T) {
	r := fixed()
	missed := 0
	for range 400 {
		s := anyShape(r, []int{5, 300, impl.WideMax}[r.IntN(3)])
		at := near(r, impl.Vec{}, 1<<r.IntN(21))
		b := impl.ShapeBounds(s, at)
		for _, x := range someRays(r, at, 50) {
			_, wider := impl.RayBox(x, box(b.Low.X-1, b.Low.Y-1, b.High.X+1, b.High.Y+1))
			if got := rayAnswer(impl.RayShape(x, s, at)); !wider && got != -1 {
				t.Errorf("RayShape(%v, %v, %v) = %d", x, s, at, got)
			}
			if !wider {
				missed++
			}
		}
	}
	if missed < 1000 {
		t.Errorf("only %d rays missed", missed)
	}
}

func TestP29AShapeIsMetAsItsKindIs(t *testing.T) {
	r := fixed()
	for _, s := range goodShapes() {
		for _, at := range places() {
			b := impl.ShapeBounds(s, at)
			for _, x := range someRays(r, at, 200) {
				want := rayAnswer(rayByWords(x, b))
				if s.Kind == impl.ShapeRound {
					want = roundByLooking(x, at, s.Wide)
				}
				if got := rayAnswer(impl.RayShape(x, s, at)); got != want {
					t.Errorf("RayShape(%v, %v, %v) = %d, not %d", x, s, at, got, want)
				}
			}
		}
	}
}

func TestP29BoundsThatAreNoPlaces(t *testing.T) {
	far := impl.FarMax
	at, s := vec(far, -far), slab(300, 100)
	if _, ok := impl.RayBox(ray(far, 0, 0, -far), impl.ShapeBounds(s, at)); ok {
		t.Error("RayBox of bounds that are no places")
	}
	for _, c := range []struct {
		ray  impl.Ray
		want int
	}{
		{ray(far, 500-far, 0, -512), 200}, {ray(far-556, -far, 512, 0), 128}, {ray(far-556, -far+100, 512, 0), 128}, {ray(far-556, -far+101, 512, 0), -1}, {ray(far, 100-far, 5, 5), 0},
	} {
		if got := rayAnswer(impl.RayShape(c.ray, s, at)); got != c.want {
			t.Errorf("RayShape(%v) = %d, not %d", c.ray, got, c.want)
		}
	}
}

func TestP29WhatIsNotOkIsNotMet(t *testing.T) {
	for _, s := range goodShapes() {
		for _, x := range badRays() {
			if got := rayAnswer(impl.RayShape(x, s, impl.Vec{})); got != -1 {
				t.Errorf("RayShape(%v, %v) = %d", x, s, got)
			}
		}
		for _, p := range noPlaces() {
			from := vec(max(-impl.FarMax, min(impl.FarMax, p.X)), max(-impl.FarMax, min(impl.FarMax, p.Y)))
			if got := rayAnswer(impl.RayShape(impl.Ray{From: from, Way: vec(1, 1)}, s, p)); got != -1 {
				t.Errorf("RayShape of %v at %v = %d", s, p, got)
			}
		}
	}
	for _, s := range badShapes() {
		if got := rayAnswer(impl.RayShape(ray(0, 0, 1, 1), s, impl.Vec{})); got != -1 {
			t.Errorf("RayShape of %v = %d", s, got)
		}
	}
}
