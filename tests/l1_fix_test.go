package tests

import (
	"math"
	"math/big"
	"strings"
	"testing"

	"loop.example/parquetry/impl"
)

func TestLimitsOfNumbers(t *testing.T) {
	if impl.One != 256 || impl.FixMax != 1000000000 {
		t.Error(impl.One, impl.FixMax)
	}
}

func TestP1ClampKeepsLimits(t *testing.T) {
	for _, n := range numbers() {
		if got := impl.FixClamp(n); got != limited(n) {
			t.Errorf("FixClamp(%d) = %d", n, got)
		}
	}
	for _, c := range [][2]int{{0, 0}, {-7, -7}, {impl.FixMax, impl.FixMax}, {impl.FixMax + 1, impl.FixMax}, {-impl.FixMax, -impl.FixMax}, {-impl.FixMax - 1, -impl.FixMax}, {math.MaxInt, impl.FixMax}, {math.MinInt, -impl.FixMax}} {
		if got := impl.FixClamp(c[0]); got != c[1] {
			t.Errorf("FixClamp(%d) = %d", c[0], got)
		}
	}
}

func TestP2MulIsTheSameBothWays(t *testing.T) {
	list := numbers()
	for _, a := range list {
		if impl.FixMul(a, impl.One) != limited(a) || impl.FixMul(a, 0) != 0 {
			t.Errorf("%d times One or 0", a)
		}
		for _, b := range list {
			got := impl.FixMul(a, b)
			if got != impl.FixMul(b, a) {
				t.Errorf("FixMul(%d, %d) is not the same both ways", a, b)
			}
			if got != -impl.FixMul(-limited(a), b) {
				t.Errorf("FixMul(%d, %d) of the opposite", a, b)
			}
			if want := cut(product(limited(a), limited(b)), impl.One); got != want {
				t.Errorf("FixMul(%d, %d) = %d, not %d", a, b, got, want)
			}
		}
	}
}

func TestP2MulIsCutTowardsNought(t *testing.T) {
	for _, c := range [][3]int{{384, -640, -960}, {1, 255, 0}, {-1, 255, 0}, {-1, -255, 0}, {-1, 257, -1}, {3, -171, -2}, {impl.FixMax, impl.FixMax, impl.FixMax}, {impl.FixMax, -impl.FixMax, -impl.FixMax}, {math.MinInt, 1, -3906250}} {
		if got := impl.FixMul(c[0], c[1]); got != c[2] {
			t.Errorf("FixMul(%d, %d) = %d", c[0], c[1], got)
		}
	}
}

func TestP3DivTimesTheDivisorIsTheNumber(t *testing.T) {
	list := numbers()
	for _, a := range list {
		for _, b := range list {
			got := impl.FixDiv(a, b)
			if b == 0 {
				continue
			}
			all := product(limited(a), impl.One)
			if want := cut(all, limited(b)); got != want {
				t.Errorf("FixDiv(%d, %d) = %d, not %d", a, b, got, want)
			}
			if got == impl.FixMax || got == -impl.FixMax {
				continue
			}
			back := product(got, limited(b))
			left := new(big.Int).Sub(all, back)
			if back.CmpAbs(all) > 0 || left.CmpAbs(large(limited(b))) >= 0 || left.Sign()*all.Sign() < 0 {
				t.Errorf("FixDiv(%d, %d) = %d leaves %v", a, b, got, left)
			}
		}
	}
}

func TestP3DivByNought(t *testing.T) {
	for _, a := range numbers() {
		want := 0
		if a > 0 {
			want = impl.FixMax
		} else if a < 0 {
			want = -impl.FixMax
		}
		if got := impl.FixDiv(a, 0); got != want {
			t.Errorf("FixDiv(%d, 0) = %d", a, got)
		}
	}
	for _, c := range [][3]int{{-1000, 3, -85333}, {1000, -3, -85333}, {-1000, -3, 85333}, {1, 257, 0}, {-1, 257, 0}, {impl.FixMax, 1, impl.FixMax}, {-impl.FixMax, 255, -impl.FixMax}, {impl.FixMax, 256, impl.FixMax}, {impl.FixMax, 257, 996108949}, {math.MinInt, math.MinInt, 256}} {
		if got := impl.FixDiv(c[0], c[1]); got != c[2] {
			t.Errorf("FixDiv(%d, %d) = %d", c[0], c[1], got)
		}
	}
}

func checkRoot(t *testing.T, a int) {
	r, n := impl.FixSqrt(a), max(0, limited(a))
	all := product(n, impl.One)
	if r < 0 || product(r, r).Cmp(all) > 0 || product(r+1, r+1).Cmp(all) <= 0 {
		t.Errorf("FixSqrt(%d) = %d", a, r)
	}
}

func TestP4RootSquaredIsNotAbove(t *testing.T) {
	for _, a := range numbers() {
		checkRoot(t, a)
	}
	for a := -10; a < 3000; a++ {
		checkRoot(t, a)
	}
	for k := 1; k < 1900; k++ {
		checkRoot(t, k*k*impl.One-1)
		checkRoot(t, k*k*impl.One)
	}
	for _, c := range [][2]int{{512, 362}, {0, 0}, {1, 16}, {256, 256}, {-1, 0}, {math.MinInt, 0}, {impl.FixMax, 505964}, {math.MaxInt, 505964}} {
		if got := impl.FixSqrt(c[0]); got != c[1] {
			t.Errorf("FixSqrt(%d) = %d", c[0], got)
		}
	}
}

func TestP5TextIsReadBack(t *testing.T) {
	check := func(n int) {
		text := impl.FixText(n)
		if got, ok := impl.FixRead(text); !ok || got != limited(n) {
			t.Errorf("FixRead of %q = %d, %t", text, got, ok)
		}
	}
	for _, n := range numbers() {
		check(n)
	}
	for n := -2000; n <= 2000; n++ {
		check(n)
	}
}

func TestP5TextIsWrittenSo(t *testing.T) {
	for n, want := range map[int]string{0: "0.000", 7: "0.007", -7: "-0.007", 99: "0.099", 100: "0.100", 255: "0.255", 256: "1.000", -256: "-1.000", -400: "-1.144", 2560: "10.000", impl.FixMax: "3906250.000", -impl.FixMax: "-3906250.000", impl.FixMax - 1: "3906249.255", impl.FixMax + 1: "3906250.000", math.MaxInt: "3906250.000", math.MinInt: "-3906250.000"} {
		if got := impl.FixText(n); got != want {
			t.Errorf("FixText(%d) = %q", n, got)
		}
	}
}

func TestP5OtherTextsAreNoNumbers(t *testing.T) {
	for _, text := range []string{"", "-", ".", "-.", "1", "-1", "1.", ".000", "1.1", "1.11", "1.256", "1.999", "01.000", "00.000", "-0.000", "--1.000", "+1.000", "1.+11", "1.-11", "-1.-11", "1.1234", "1.0000", "a.100", "1.a00", "1,000", " 1.000", "1.000 ", "1.000\n", "1.000\x00", "1_0.000", "1.0_0", "1.000.000", "1e1.000", "0x1.000", "\xff.000", "١.000", "3906250.001", "-3906250.001", "3906251.000", "9999999.000", "99999999.000", "18446744073709551617.000", "72057594037927936.000", strings.Repeat("9", 100000) + ".000"} {
		if n, ok := impl.FixRead(text); ok || n != 0 {
			t.Errorf("FixRead(%.40q) = %d, %t", text, n, ok)
		}
	}
}

// All short texts of these signs: what is read is written just so.
func TestP5WhatIsReadIsWritten(t *testing.T) {
	signs, read := "-+.0125", 0
	var grow func(text string)
	grow = func(text string) {
		n, ok := impl.FixRead(text)
		if ok && impl.FixText(n) != text || !ok && n != 0 {
			t.Errorf("FixRead(%q) = %d, %t", text, n, ok)
		}
		if ok {
			read++
		}
		if len(text) == 6 {
			return
		}
		for _, sign := range signs {
			grow(text + string(sign))
		}
	}
	grow("")
	// Left over are three figures that begin with 0 or 1; with 20, 21 or 22; or with 25, and 0, 1, 2 or 5 behind it.
	// Ahead of them are 4 words of one figure and 12 of two, or "-" and one figure, but for "-0.000".
	left := 2*16 + 3*4 + 4
	if want := left*(4+12) + left*4 - 1; read != want {
		t.Errorf("%d texts are read, not %d", read, want)
	}
}
