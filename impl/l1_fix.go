// Package impl: bodies that push each other, in whole numbers.
package impl

import (
	"strconv"
	"strings"
)

// One is the number 1, and FixMax the greatest.
const (
	One    = 256
	FixMax = 1000000000
)

// number is so many parts of One; 64 bits on every machine, as the squares of two greatest numbers together need them.
type number int64

// rootEnd is above the root of whatever is reckoned with, and its own square still fits into a number.
const rootEnd number = 1 << 31

// fixOf is a number that was given, within limits.
func fixOf(n int) number {
	return number(n).held(FixMax)
}

// held is the number within limits on either side of 0.
func (n number) held(limit number) number {
	return max(-limit, min(limit, n))
}

// within says whether held would leave the number.
func (n number) within(limit number) bool {
	return -limit <= n && n <= limit
}

// times is two numbers taken times each other, within limits.
func (n number) times(by number) number {
	return (n * by / One).held(FixMax)
}

// over is the number divided by another one, within limits.
func (n number) over(by number) number {
	switch {
	case by != 0:
		return (n * One / by).held(FixMax)
	case n > 0:
		return FixMax
	case n < 0:
		return -FixMax
	}
	return 0
}

// root is the greatest whole number whose square is not above the number; 0 below 0.
func (n number) root() number {
	low, high := number(0), rootEnd
	narrow := func() bool {
		middle := (low + high) / 2
		if middle*middle <= n {
			low = middle
		} else {
			high = middle
		}
		return high-low > 1
	}
	for narrow() {
	}
	return low
}

// text is the number as it is written.
func (n number) text() string {
	sign := ""
	if n < 0 {
		sign, n = "-", -n
	}
	// 1000 more has just three figures behind its first one, noughts with them.
	left := strconv.FormatInt(int64(1000+n%One), 10)[1:]
	return sign + strconv.FormatInt(int64(n/One), 10) + "." + left
}

// readParts is the number that a text's figures come to, however they are spelt; 32 bits of each, so that all of it fits.
func readParts(text string) (number, bool) {
	figures, below := strings.CutPrefix(text, "-")
	before, behind, _ := strings.Cut(figures, ".")
	whole, err := strconv.ParseInt(before, 10, 32)
	if err != nil {
		return 0, false
	}
	left, err := strconv.ParseInt(behind, 10, 32)
	if err != nil {
		return 0, false
	}
	n := number(whole)*One + number(left)
	if below {
		n = -n
	}
	return n, true
}

// FixClamp is a number within limits.
func FixClamp(n int) int {
	return int(fixOf(n))
}

// FixMul is two numbers taken times each other.
func FixMul(a int, b int) int {
	return int(fixOf(a).times(fixOf(b)))
}

// FixDiv is a number divided by another one.
func FixDiv(a int, b int) int {
	return int(fixOf(a).over(fixOf(b)))
}

// FixSqrt is the root of a number.
func FixSqrt(a int) int {
	return int((fixOf(a) * One).root())
}

// FixText is a number as a text.
func FixText(a int) string {
	return fixOf(a).text()
}

// FixRead reads a number.
func FixRead(text string) (int, bool) {
	n, ok := readParts(text)
	// Written again it must be the same: that refuses every other spelling of a number, and what is past the limits.
	if !ok || n.held(FixMax).text() != text {
		return 0, false
	}
	return int(n), true
}
