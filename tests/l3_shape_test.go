package tests

import (
	"math"
	"testing"

	"loop.example/parquetry/impl"
)

func goodShapes() []impl.Shape {
	most := impl.WideMax
	return []impl.Shape{round(1), round(2), round(256), round(most), slab(1, 1), slab(1, most), slab(most, 1), slab(300, 100), slab(most, most)}
}

func badShapes() []impl.Shape {
	most := impl.WideMax
	list := []impl.Shape{{}, {Kind: 1}, {Kind: 2}, round(0), round(-1), round(most + 1), round(math.MaxInt), round(math.MinInt), {Kind: 1, Wide: 5, High: 5}, {Kind: 1, Wide: 5, High: -1}, slab(0, 5), slab(5, 0), slab(-1, 5), slab(5, -1), slab(most+1, 5), slab(5, most+1), slab(math.MinInt, math.MinInt)}
	for _, kind := range []int{0, -1, -2, 3, math.MaxInt, math.MinInt} {
		list = append(list, impl.Shape{Kind: kind, Wide: 5}, impl.Shape{Kind: kind, Wide: 5, High: 5})
	}
	return list
}

func places() []impl.Vec {
	most := impl.FarMax
	return []impl.Vec{{}, {X: 10}, {X: -7, Y: 3}, {X: most, Y: most}, {X: -most, Y: most}, {X: -most, Y: -most}}
}

func noPlaces() []impl.Vec {
	over := impl.FarMax + 1
	return []impl.Vec{{X: over}, {X: -over}, {Y: over}, {Y: -over}, {X: impl.FixMax, Y: 1}, {X: math.MinInt}, {Y: math.MaxInt}}
}

func badBoxes() []impl.Box {
	over := impl.FixMax + 1
	return []impl.Box{box(1, 0, 0, 0), box(0, 1, 0, 0), box(0, 0, -1, 5), box(0, 0, 5, -1), box(-over, 0, 0, 0), box(0, -over, 0, 0), box(0, 0, over, 0), box(0, 0, 0, over), box(over, 0, over, 0), box(math.MinInt, math.MinInt, math.MaxInt, math.MaxInt)}
}

// gridBoxes: all boxes with corners in least..most.
func gridBoxes(least int, most int) []impl.Box {
	var list []impl.Box
	for x := least; x <= most; x++ {
		for u := x; u <= most; u++ {
			for y := least; y <= most; y++ {
				for v := y; v <= most; v++ {
					list = append(list, box(x, y, u, v))
				}
			}
		}
	}
	return list
}

// greatBoxes: boxes at the limits.
func greatBoxes() []impl.Box {
	most := impl.FixMax
	return []impl.Box{box(-most, -most, most, most), box(-most, -most, -most, -most), box(most, most, most, most), box(-most, 0, most, 0), box(0, -most, 0, most), box(0, 0, most, most), box(1-most, 1-most, most-1, most-1), box(0, 0, 0, 0)}
}

// inBox: whether a point is in a box, sides with it.
func inBox(b impl.Box, p impl.Vec) bool {
	return b.Low.X <= p.X && p.X <= b.High.X && b.Low.Y <= p.Y && p.Y <= b.High.Y
}

func TestShapesThatAreOk(t *testing.T) {
	if impl.WideMax != 25600 || impl.FarMax != 2560000 || impl.ShapeRound != 1 || impl.ShapeBox != 2 {
		t.Error("limits")
	}
	for _, s := range goodShapes() {
		if !impl.ShapeOk(s) {
			t.Errorf("%v is not ok", s)
		}
	}
	for _, s := range badShapes() {
		if impl.ShapeOk(s) {
			t.Errorf("%v is ok", s)
		}
	}
}

func TestBoxesThatAreOk(t *testing.T) {
	for _, b := range append(greatBoxes(), gridBoxes(-1, 1)...) {
		if !impl.BoxOk(b) {
			t.Errorf("%v is not ok", b)
		}
	}
	for _, b := range badBoxes() {
		if impl.BoxOk(b) {
			t.Errorf("%v is ok", b)
		}
	}
}

func TestP12BoundsAreAroundTheMiddle(t *testing.T) {
	for _, s := range goodShapes() {
		for _, at := range places() {
			high := s.High
			if s.Kind == impl.ShapeRound {
				high = s.Wide
			}
			got := impl.ShapeBounds(s, at)
			if got != box(at.X-s.Wide, at.Y-high, at.X+s.Wide, at.Y+high) || !impl.BoxOk(got) {
				t.Errorf("ShapeBounds(%v, %v) = %v", s, at, got)
			}
		}
	}
}

func TestP12BoundsOfWhatIsNotOkAreNothing(t *testing.T) {
	for _, s := range badShapes() {
		if got := impl.ShapeBounds(s, impl.Vec{X: 5}); got != (impl.Box{}) {
			t.Errorf("ShapeBounds(%v) = %v", s, got)
		}
	}
	for _, s := range goodShapes() {
		for _, at := range noPlaces() {
			if got := impl.ShapeBounds(s, at); got != (impl.Box{}) {
				t.Errorf("ShapeBounds(%v, %v) = %v", s, at, got)
			}
		}
	}
}

func TestP13WhatAShapeHasIsInItsBounds(t *testing.T) {
	for _, at := range []impl.Vec{{}, {X: 100, Y: -7}} {
		for _, s := range []impl.Shape{round(1), round(2), round(5), round(7), slab(1, 1), slab(5, 2), slab(2, 7)} {
			for x := -9; x <= 9; x++ {
				for y := -9; y <= 9; y++ {
					p, other := impl.Vec{X: at.X + x, Y: at.Y + y}, impl.Vec{X: at.X - x, Y: at.Y - y}
					want := distance(x, 0) <= s.Wide && distance(y, 0) <= s.High
					if s.Kind == impl.ShapeRound {
						want = x*x+y*y <= s.Wide*s.Wide
					}
					got := impl.ShapeHas(s, at, p)
					if got != want || got != impl.ShapeHas(s, at, other) || got && !inBox(impl.ShapeBounds(s, at), p) {
						t.Errorf("ShapeHas(%v, %v, %v) = %t", s, at, p, got)
					}
				}
			}
		}
	}
}

func TestP13SidesAndTheMiddleAreOfAShape(t *testing.T) {
	for _, s := range goodShapes() {
		for _, at := range places() {
			if !impl.ShapeHas(s, at, at) {
				t.Errorf("%v at %v has not its middle", s, at)
			}
		}
		right, over := impl.Vec{X: 3 + s.Wide, Y: 5}, impl.Vec{X: 4 + s.Wide, Y: 5}
		if !impl.ShapeHas(s, impl.Vec{X: 3, Y: 5}, right) || impl.ShapeHas(s, impl.Vec{X: 3, Y: 5}, over) {
			t.Errorf("the right side of %v", s)
		}
	}
	if impl.ShapeHas(round(256), impl.Vec{}, impl.Vec{X: 182, Y: 182}) || !impl.ShapeHas(round(256), impl.Vec{}, impl.Vec{X: 181, Y: 181}) {
		t.Error("what is round has its corners")
	}
	far := impl.FarMax
	if impl.ShapeHas(round(impl.WideMax), impl.Vec{X: -far, Y: -far}, impl.Vec{X: far, Y: far}) {
		t.Error("from end to end")
	}
}

func TestP13WhatIsNotOkHasNothing(t *testing.T) {
	for _, s := range badShapes() {
		if impl.ShapeHas(s, impl.Vec{}, impl.Vec{}) {
			t.Errorf("%v has its middle", s)
		}
	}
	for _, s := range goodShapes() {
		for _, p := range noPlaces() {
			near := impl.Vec{X: max(-impl.FarMax, min(impl.FarMax, p.X)), Y: max(-impl.FarMax, min(impl.FarMax, p.Y))}
			if impl.ShapeHas(s, p, p) || impl.ShapeHas(s, p, near) || impl.ShapeHas(s, near, p) {
				t.Errorf("%v at or has %v", s, p)
			}
		}
	}
}

func checkMeets(t *testing.T, a impl.Box, b impl.Box, want bool) {
	if impl.BoxMeets(a, b) != want || impl.BoxMeets(b, a) != want {
		t.Errorf("BoxMeets(%v, %v) is not %t both ways", a, b, want)
	}
	for _, corner := range []impl.Vec{b.Low, b.High, {X: b.Low.X, Y: b.High.Y}, {X: b.High.X, Y: b.Low.Y}} {
		p := impl.BoxNear(b, impl.BoxNear(a, corner))
		if (inBox(a, p) && inBox(b, p)) != want {
			t.Errorf("BoxNear of %v to %v, and of %v to that", a, corner, b)
		}
	}
}

func TestP14BoxesMeetJustIfAPointIsInBoth(t *testing.T) {
	list := gridBoxes(-2, 1)
	for _, a := range list {
		for _, b := range list {
			common := false
			for x := -2; x <= 1; x++ {
				for y := -2; y <= 1; y++ {
					p := impl.Vec{X: x, Y: y}
					common = common || inBox(a, p) && inBox(b, p)
				}
			}
			checkMeets(t, a, b, common)
		}
	}
}

func TestP14SidesThatJustMeet(t *testing.T) {
	a, most := box(0, 0, 10, 10), impl.FixMax
	for _, b := range []impl.Box{box(10, 3, 20, 5), box(-5, 3, 0, 5), box(3, 10, 5, 20), box(3, -9, 5, 0), box(10, 10, 11, 11), box(-1, -1, 0, 0), box(5, 5, 5, 5), box(-most, -most, most, most)} {
		checkMeets(t, a, b, true)
	}
	for _, b := range []impl.Box{box(11, 3, 20, 5), box(-5, 3, -1, 5), box(3, 11, 5, 20), box(3, -9, 5, -1), box(11, 11, 12, 12), box(most, most, most, most)} {
		checkMeets(t, a, b, false)
	}
	checkMeets(t, box(-most, -most, 0, 0), box(0, 0, most, most), true)
	checkMeets(t, box(-most, -most, -1, 0), box(0, 0, most, most), false)
}

func TestP15TheLeastBoxThatHasBoth(t *testing.T) {
	list := append(gridBoxes(-1, 1), greatBoxes()...)
	for _, a := range list {
		for _, b := range list {
			c := impl.BoxBoth(a, b)
			if c != box(min(a.Low.X, b.Low.X), min(a.Low.Y, b.Low.Y), max(a.High.X, b.High.X), max(a.High.Y, b.High.Y)) {
				t.Errorf("BoxBoth(%v, %v) = %v", a, b, c)
			}
			if c != impl.BoxBoth(b, a) || !impl.BoxHas(c, a) || !impl.BoxHas(c, b) || (c == a) != impl.BoxHas(a, b) {
				t.Errorf("BoxBoth(%v, %v) = %v has not both", a, b, c)
			}
			for _, d := range list {
				if impl.BoxHas(d, a) && impl.BoxHas(d, b) && !impl.BoxHas(d, c) {
					t.Errorf("BoxBoth(%v, %v) = %v, and %v would do", a, b, c, d)
				}
			}
		}
	}
}

func TestP16WhatABoxHasItMeets(t *testing.T) {
	list := append(gridBoxes(-1, 1), greatBoxes()...)
	for _, a := range list {
		if !impl.BoxHas(a, a) {
			t.Errorf("%v has not itself", a)
		}
		for _, b := range list {
			got := impl.BoxHas(a, b)
			if got != (inBox(a, b.Low) && inBox(a, b.High)) || got && !impl.BoxMeets(a, b) {
				t.Errorf("BoxHas(%v, %v) = %t", a, b, got)
			}
			for _, c := range list {
				if got && impl.BoxHas(b, c) && !impl.BoxHas(a, c) {
					t.Errorf("%v has %v, and that %v", a, b, c)
				}
			}
		}
	}
}

func TestP14To16BoxesThatAreNotOk(t *testing.T) {
	good := box(-impl.FixMax, -impl.FixMax, impl.FixMax, impl.FixMax)
	for _, bad := range badBoxes() {
		for _, c := range [][2]impl.Box{{bad, good}, {good, bad}, {bad, bad}} {
			if impl.BoxMeets(c[0], c[1]) || impl.BoxHas(c[0], c[1]) || impl.BoxBoth(c[0], c[1]) != (impl.Box{}) {
				t.Errorf("of %v and %v", c[0], c[1])
			}
		}
	}
}

func checkNear(t *testing.T, b impl.Box, p impl.Vec) {
	q := impl.BoxNear(b, p)
	if !inBox(b, q) || (q == p) != inBox(b, p) {
		t.Errorf("BoxNear(%v, %v) = %v", b, p, q)
	}
	for _, c := range []impl.Vec{b.Low, b.High} {
		if distance(q.X, p.X) > distance(c.X, p.X) || distance(q.Y, p.Y) > distance(c.Y, p.Y) {
			t.Errorf("BoxNear(%v, %v) = %v, the corner %v is nearer", b, p, q, c)
		}
	}
}

func TestP17TheNearestPointIsInTheBox(t *testing.T) {
	for _, b := range gridBoxes(-2, 2) {
		for x := -4; x <= 4; x++ {
			for y := -4; y <= 4; y++ {
				checkNear(t, b, impl.Vec{X: x, Y: y})
			}
		}
	}
	most := impl.FixMax
	for _, b := range greatBoxes() {
		for _, p := range []impl.Vec{{}, {X: most, Y: most}, {X: -most, Y: most}, {X: -most, Y: -most}, {X: 5, Y: -most}} {
			checkNear(t, b, p)
		}
	}
	if got := impl.BoxNear(box(0, 0, 10, 10), impl.Vec{X: 15, Y: -4}); got != (impl.Vec{X: 10}) {
		t.Error(got)
	}
}

func TestP17NothingIsNearWhatIsNotOk(t *testing.T) {
	for _, b := range badBoxes() {
		if got := impl.BoxNear(b, impl.Vec{X: 3, Y: 3}); got != (impl.Vec{}) {
			t.Errorf("BoxNear(%v) = %v", b, got)
		}
	}
	over := impl.FixMax + 1
	for _, p := range []impl.Vec{{X: over}, {X: -over}, {Y: over}, {Y: -over}, {X: math.MinInt, Y: 3}, {X: 3, Y: math.MaxInt}} {
		if got := impl.BoxNear(box(2, 2, 10, 10), p); got != (impl.Vec{}) {
			t.Errorf("BoxNear to %v = %v", p, got)
		}
	}
}
