package tests

import (
	"math"
	"math/big"
	"testing"

	"loop.example/parquetry/impl"
)

// squares: both squares together, of a way within limits.
func squares(a impl.Vec) *big.Int {
	a = limitedVec(a)
	return new(big.Int).Add(product(a.X, a.X), product(a.Y, a.Y))
}

func TestVecOkIsWithinLimits(t *testing.T) {
	for _, x := range edges() {
		for _, y := range edges() {
			want := limited(x) == x && limited(y) == y
			if got := impl.VecOk(impl.Vec{X: x, Y: y}); got != want {
				t.Errorf("VecOk(%d, %d) = %t", x, y, got)
			}
		}
	}
}

func TestP6AddIsTheSameBothWays(t *testing.T) {
	list := vecs()
	for _, a := range list {
		for _, b := range list {
			got, p, q := impl.VecAdd(a, b), limitedVec(a), limitedVec(b)
			if got != impl.VecAdd(b, a) {
				t.Errorf("VecAdd(%v, %v) is not the same both ways", a, b)
			}
			sum := impl.Vec{X: p.X + q.X, Y: p.Y + q.Y}
			if got != limitedVec(sum) {
				t.Errorf("VecAdd(%v, %v) = %v", a, b, got)
			}
			if got == sum && impl.VecSub(got, b) != p {
				t.Errorf("VecSub of VecAdd(%v, %v) = %v", a, b, impl.VecSub(got, b))
			}
		}
	}
	if got := impl.VecAdd(impl.Vec{X: math.MaxInt, Y: math.MinInt}, impl.Vec{X: -5, Y: 5}); got != (impl.Vec{X: impl.FixMax - 5, Y: 5 - impl.FixMax}) {
		t.Error("what is given is not taken within limits first:", got)
	}
}

func TestP7SubTheOtherWayRoundIsTheOpposite(t *testing.T) {
	list := vecs()
	for _, a := range list {
		if got := impl.VecSub(a, a); got != (impl.Vec{}) {
			t.Errorf("VecSub(%v, itself) = %v", a, got)
		}
		for _, b := range list {
			got, p, q := impl.VecSub(a, b), limitedVec(a), limitedVec(b)
			if got != opposite(impl.VecSub(b, a)) {
				t.Errorf("VecSub(%v, %v) the other way round", a, b)
			}
			if got != limitedVec(impl.Vec{X: p.X - q.X, Y: p.Y - q.Y}) {
				t.Errorf("VecSub(%v, %v) = %v", a, b, got)
			}
		}
	}
}

func TestP8MulIsFixMulOfEach(t *testing.T) {
	for _, a := range vecs() {
		if got := impl.VecMul(a, impl.One); got != limitedVec(a) {
			t.Errorf("VecMul(%v, One) = %v", a, got)
		}
		for _, n := range numbers() {
			got := impl.VecMul(a, n)
			if got != (impl.Vec{X: impl.FixMul(a.X, n), Y: impl.FixMul(a.Y, n)}) {
				t.Errorf("VecMul(%v, %d) = %v", a, n, got)
			}
			if impl.VecMul(opposite(limitedVec(a)), n) != opposite(got) {
				t.Errorf("VecMul(%v, %d) of the opposite", a, n)
			}
		}
	}
	if got := impl.VecMul(impl.Vec{X: 3, Y: -5}, 128); got != (impl.Vec{X: 1, Y: -2}) {
		t.Error("not cut towards 0:", got)
	}
}

func TestP9DotIsTheSameBothWays(t *testing.T) {
	list := vecs()
	for _, a := range list {
		side := impl.Vec{X: -limited(a.Y), Y: limited(a.X)}
		if impl.VecDot(a, a) < 0 || impl.VecDot(a, side) != 0 {
			t.Errorf("VecDot(%v, itself or its side)", a)
		}
		for _, b := range list {
			got, p, q := impl.VecDot(a, b), limitedVec(a), limitedVec(b)
			if got != impl.VecDot(b, a) {
				t.Errorf("VecDot(%v, %v) is not the same both ways", a, b)
			}
			sum := new(big.Int).Add(product(p.X, q.X), product(p.Y, q.Y))
			if want := cut(sum, impl.One); got != want {
				t.Errorf("VecDot(%v, %v) = %d, not %d", a, b, got, want)
			}
			long, other := impl.VecLen(a), impl.VecLen(b)
			if long < impl.FixMax && other < impl.FixMax && got > impl.FixMul(long+1, other+1) {
				t.Errorf("VecDot(%v, %v) = %d is above both lengths", a, b, got)
			}
		}
	}
}

// Both products are taken together ahead of the cut.
func TestP9DotIsCutOnce(t *testing.T) {
	a, b := impl.Vec{X: 128, Y: 128}, impl.Vec{X: 1, Y: 1}
	if impl.VecDot(a, b) != 1 || impl.VecDot(a, opposite(b)) != -1 || impl.VecDot(impl.Vec{X: 127, Y: 128}, opposite(b)) != 0 {
		t.Error(impl.VecDot(a, b), impl.VecDot(a, opposite(b)))
	}
	m := impl.Vec{X: math.MinInt, Y: math.MinInt}
	if impl.VecDot(m, m) != impl.FixMax || impl.VecDot(m, impl.Vec{X: math.MaxInt, Y: math.MaxInt}) != -impl.FixMax {
		t.Error("the greatest numbers:", impl.VecDot(m, m))
	}
}

func TestP10LengthSquaredIsNotAbove(t *testing.T) {
	list := vecs()
	for _, a := range list {
		got, all := impl.VecLen(a), squares(a)
		if got != rootOf(all) {
			t.Errorf("VecLen(%v) = %d", a, got)
		}
		if product(got, got).Cmp(all) > 0 || got < impl.FixMax && product(got+1, got+1).Cmp(all) <= 0 {
			t.Errorf("VecLen(%v) = %d squared", a, got)
		}
		for _, b := range list {
			if sum := impl.VecLen(impl.VecAdd(a, b)); sum > got+impl.VecLen(b)+2 {
				t.Errorf("VecLen(%v and %v) = %d", a, b, sum)
			}
		}
	}
}

func TestP10LengthsOfSmallAndGreatWays(t *testing.T) {
	for x := -40; x <= 40; x++ {
		for y := -40; y <= 40; y++ {
			n := impl.VecLen(impl.Vec{X: x, Y: y})
			if n < 0 || n*n > x*x+y*y || (n+1)*(n+1) <= x*x+y*y {
				t.Errorf("VecLen(%d, %d) = %d", x, y, n)
			}
		}
	}
	most := impl.FixMax
	for _, c := range []struct {
		a    impl.Vec
		want int
	}{{impl.Vec{X: 300, Y: 400}, 500}, {impl.Vec{}, 0}, {impl.Vec{X: 1, Y: 1}, 1}, {impl.Vec{X: most}, most}, {impl.Vec{X: most, Y: 1}, most}, {impl.Vec{X: 600000000, Y: 800000000}, most}, {impl.Vec{X: 600000000, Y: -799999999}, most - 1}, {impl.Vec{X: most, Y: most}, most}, {impl.Vec{X: math.MinInt, Y: math.MaxInt}, most}} {
		if got := impl.VecLen(c.a); got != c.want {
			t.Errorf("VecLen(%v) = %d", c.a, got)
		}
	}
}

func sameSign(a int, b int) bool {
	return b == 0 || a > 0 && b > 0 || a < 0 && b < 0
}

func checkUnit(t *testing.T, a impl.Vec) {
	got, p, long := impl.VecUnit(a), limitedVec(a), impl.VecLen(a)
	if long == 0 {
		if got != (impl.Vec{X: 0, Y: impl.One}) {
			t.Errorf("VecUnit(%v) = %v", a, got)
		}
		return
	}
	if got != (impl.Vec{X: cut(product(p.X, impl.One), long), Y: cut(product(p.Y, impl.One), long)}) {
		t.Errorf("VecUnit(%v) = %v", a, got)
	}
	if !sameSign(p.X, got.X) || !sameSign(p.Y, got.Y) || impl.VecUnit(opposite(p)) != opposite(got) {
		t.Errorf("VecUnit(%v) = %v goes another way", a, got)
	}
	// A way longer than FixMax counts as FixMax long: there the length says nothing.
	longer := squares(a).Cmp(product(impl.FixMax, impl.FixMax)) > 0
	if n := impl.VecLen(got); long >= impl.One && !longer && (n < 253 || n > 258) {
		t.Errorf("VecUnit(%v) = %v is %d long", a, got, n)
	}
}

func TestP11UnitIsAboutOneLong(t *testing.T) {
	for _, a := range vecs() {
		checkUnit(t, a)
	}
	for x := -300; x <= 300; x += 3 {
		for y := -300; y <= 300; y++ {
			checkUnit(t, impl.Vec{X: x, Y: y})
		}
	}
}

func TestP11UnitOfNowhereAndOfTheGreatest(t *testing.T) {
	most := impl.FixMax
	for _, c := range [][2]impl.Vec{{{}, {X: 0, Y: 256}}, {{X: 1, Y: 1}, {X: 256, Y: 256}}, {{X: -1}, {X: -256}}, {{X: 300, Y: -400}, {X: 153, Y: -204}}, {{X: -300, Y: 400}, {X: -153, Y: 204}}, {{X: most}, {X: 256}}, {{Y: -most}, {Y: -256}}, {{X: most, Y: 1}, {X: 256}}, {{X: most, Y: -most}, {X: 256, Y: -256}}, {{X: math.MinInt, Y: math.MaxInt}, {X: -256, Y: 256}}} {
		if got := impl.VecUnit(c[0]); got != c[1] {
			t.Errorf("VecUnit(%v) = %v", c[0], got)
		}
	}
}
