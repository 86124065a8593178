package tests

import (
	"math"
	"math/big"
	"math/rand/v2"

	"loop.example/parquetry/impl"
)

// edges: numbers about each limit that the document names, and the greatest and least int.
func edges() []int {
	list := []int{0, math.MaxInt, math.MaxInt - 1, math.MinInt, math.MinInt + 1}
	for _, n := range []int{1, 2, 3, 7, 255, 256, 257, 999, 65536, impl.WideMax, impl.FarMax, impl.FixMax / 2, impl.FixMax} {
		list = append(list, n-1, n, n+1, 1-n, -n, -n-1)
	}
	return list
}

// fixed: always the same course of numbers.
func fixed() *rand.Rand {
	return rand.New(rand.NewPCG(1, 2))
}

// anyNumber: within limits, and as often small as great.
func anyNumber(r *rand.Rand) int {
	top := 1 << r.IntN(30)
	return r.IntN(2*top+1) - top
}

// numbers: the edges, and some others.
func numbers() []int {
	list, r := edges(), fixed()
	for range 60 {
		list = append(list, anyNumber(r))
	}
	return list
}

// limited: what FixClamp must answer, found another way than the program does.
func limited(n int) int {
	if n > impl.FixMax {
		return impl.FixMax
	}
	if n < -impl.FixMax {
		return -impl.FixMax
	}
	return n
}

func large(n int) *big.Int {
	return big.NewInt(int64(n))
}

func product(a int, b int) *big.Int {
	return new(big.Int).Mul(large(a), large(b))
}

// cut: a divided by b, cut towards 0, within limits.
func cut(a *big.Int, b int) int {
	q := new(big.Int).Quo(a, large(b))
	if q.Cmp(large(impl.FixMax)) > 0 {
		return impl.FixMax
	}
	if q.Cmp(large(-impl.FixMax)) < 0 {
		return -impl.FixMax
	}
	return int(q.Int64())
}

// rootOf: the greatest whole number whose square is not above n, within limits.
func rootOf(n *big.Int) int {
	return cut(new(big.Int).Sqrt(n), 1)
}

func opposite(a impl.Vec) impl.Vec {
	return impl.Vec{X: -a.X, Y: -a.Y}
}

// limitedVec: both numbers within limits.
func limitedVec(a impl.Vec) impl.Vec {
	return impl.Vec{X: limited(a.X), Y: limited(a.Y)}
}

// vecs: ways of edges, and some others.
func vecs() []impl.Vec {
	list, r := []impl.Vec{}, fixed()
	few := []int{0, 1, -1, 256, -257, impl.FixMax, -impl.FixMax, impl.FixMax + 1, -impl.FixMax - 1, math.MaxInt, math.MinInt}
	for _, x := range few {
		for _, y := range few {
			list = append(list, impl.Vec{X: x, Y: y})
		}
	}
	for range 100 {
		list = append(list, impl.Vec{X: anyNumber(r), Y: anyNumber(r)})
	}
	return list
}

func box(x int, y int, u int, v int) impl.Box {
	return impl.Box{Low: impl.Vec{X: x, Y: y}, High: impl.Vec{X: u, Y: v}}
}

func round(wide int) impl.Shape {
	return impl.Shape{Kind: impl.ShapeRound, Wide: wide}
}

func slab(wide int, high int) impl.Shape {
	return impl.Shape{Kind: impl.ShapeBox, Wide: wide, High: high}
}

func distance(a int, b int) int {
	return max(a-b, b-a)
}
