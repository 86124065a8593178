package impl

// Vec is a point, or a way.
type Vec struct {
	X int
	Y int
}

// way is a Vec to be reckoned with, X and then Y.
type way [2]number

// wayOf is a Vec just as it was given.
func wayOf(a Vec) way {
	return way{number(a.X), number(a.Y)}
}

// fixWayOf is a Vec that was given, within limits.
func fixWayOf(a Vec) way {
	return wayOf(a).held(FixMax)
}

// vec is the way as it is handed out.
func (w way) vec() Vec {
	return Vec{X: int(w[0]), Y: int(w[1])}
}

// held is the way with both numbers within limits.
func (w way) held(limit number) way {
	return way{w[0].held(limit), w[1].held(limit)}
}

// within says whether held would leave the way.
func (w way) within(limit number) bool {
	return w[0].within(limit) && w[1].within(limit)
}

// plus is both ways together, past the limits if need be.
func (w way) plus(o way) way {
	return way{w[0] + o[0], w[1] + o[1]}
}

// less is the way less another one, past the limits if need be.
func (w way) less(o way) way {
	return way{w[0] - o[0], w[1] - o[1]}
}

// times is the way so many times, within limits.
func (w way) times(n number) way {
	return way{w[0].times(n), w[1].times(n)}
}

// products is both products together, in parts of One squared.
func (w way) products(o way) number {
	return w[0]*o[0] + w[1]*o[1]
}

// dot is how far both ways go together, within limits.
func (w way) dot(o way) number {
	return (w.products(o) / One).held(FixMax)
}

// opposite is the way turned round.
func (w way) opposite() way {
	return way{-w[0], -w[1]}
}

// length is how long the way is, within limits.
func (w way) length() number {
	return w.products(w).root().held(FixMax)
}

// unit is the way about as long as One; up, if it goes nowhere.
func (w way) unit() way {
	long := w.length()
	if long == 0 {
		return way{0, One}
	}
	return way{w[0] * One / long, w[1] * One / long}
}

// VecOk says whether both numbers are within limits.
func VecOk(a Vec) bool {
	return wayOf(a).within(FixMax)
}

// VecAdd is two ways one behind the other.
func VecAdd(a Vec, b Vec) Vec {
	return fixWayOf(a).plus(fixWayOf(b)).held(FixMax).vec()
}

// VecSub is the way from the second to the first.
func VecSub(a Vec, b Vec) Vec {
	return fixWayOf(a).less(fixWayOf(b)).held(FixMax).vec()
}

// VecMul is a way so many times.
func VecMul(a Vec, n int) Vec {
	return fixWayOf(a).times(fixOf(n)).vec()
}

// VecDot is how far two ways go together.
func VecDot(a Vec, b Vec) int {
	return int(fixWayOf(a).dot(fixWayOf(b)))
}

// VecLen is how long a way is.
func VecLen(a Vec) int {
	return int(fixWayOf(a).length())
}

// VecUnit is a way as long as 1, or about.
func VecUnit(a Vec) Vec {
	return fixWayOf(a).unit().vec()
}
