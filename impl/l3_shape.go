package impl

// Limits of shapes.
const (
	WideMax = 25600
	FarMax  = 2560000
)

// Kinds of shapes.
const (
	ShapeRound = 1
	ShapeBox   = 2
)

// Shape is round, as far as Wide from its middle, or a box, as far as Wide to each side, and High up and down.
type Shape struct {
	Kind int
	Wide int
	High int
}

// Box is from one corner to the other one.
type Box struct {
	Low  Vec
	High Vec
}

// figure is a shape that is ok, with one type for each kind.
type figure interface {
	// reach is how far it goes from its middle to each side, and up and down.
	reach() way
}

// roundFigure is what is round.
type roundFigure struct {
	wide number
}

// boxFigure is a box around its middle.
type boxFigure struct {
	wide number
	high number
}

func (f roundFigure) reach() way {
	return way{f.wide, f.wide}
}

func (f boxFigure) reach() way {
	return way{f.wide, f.high}
}

// figureOf is the figure of a shape; false, if the shape is not ok.
func figureOf(s Shape) (figure, bool) {
	switch {
	case s.Kind == ShapeRound && isSize(s.Wide) && s.High == 0:
		return roundFigure{wide: number(s.Wide)}, true
	case s.Kind == ShapeBox && isSize(s.Wide) && isSize(s.High):
		return boxFigure{wide: number(s.Wide), high: number(s.High)}, true
	}
	return nil, false
}

// figureHas says whether a figure has what is so far off its middle.
func figureHas(f figure, off way) bool {
	switch x := f.(type) {
	case roundFigure:
		return off.products(off) <= x.wide*x.wide
	case boxFigure:
		return off[0].within(x.wide) && off[1].within(x.high)
	}
	return false
}

// span is a Box to be reckoned with, past the limits if need be.
type span struct {
	low  way
	high way
}

// spanOf is a Box just as it was given.
func spanOf(b Box) span {
	return span{low: wayOf(b.Low), high: wayOf(b.High)}
}

// spanAround is as far as a way to each side of a middle.
func spanAround(middle way, reach way) span {
	return span{low: middle.less(reach), high: middle.plus(reach)}
}

// box is the span as it is handed out.
func (s span) box() Box {
	return Box{Low: s.low.vec(), High: s.high.vec()}
}

// meets says whether both spans have a point in common.
func (s span) meets(o span) bool {
	return s.low.noneGreater(o.high) && o.low.noneGreater(s.high)
}

// has says whether all of another span is in this one.
func (s span) has(o span) bool {
	return s.low.noneGreater(o.low) && o.high.noneGreater(s.high)
}

// both is the least span that has two.
func (s span) both(o span) span {
	return span{low: s.low.least(o.low), high: s.high.greatest(o.high)}
}

// near is the point of the span that is nearest to one.
func (s span) near(p way) way {
	return p.greatest(s.low).least(s.high)
}

// isSize says whether a shape may be so wide.
func isSize(n int) bool {
	return 1 <= n && n <= WideMax
}

// isPlace says whether a point is within the world.
func isPlace(p Vec) bool {
	return wayOf(p).within(FarMax)
}

// noneGreater says whether none of the numbers is greater than the other way's.
func (w way) noneGreater(o way) bool {
	return w[0] <= o[0] && w[1] <= o[1]
}

// least is the lesser of both ways, number by number.
func (w way) least(o way) way {
	return way{min(w[0], o[0]), min(w[1], o[1])}
}

// greatest is the greater of both ways, number by number.
func (w way) greatest(o way) way {
	return way{max(w[0], o[0]), max(w[1], o[1])}
}

// ShapeOk says whether a shape is ok.
func ShapeOk(s Shape) bool {
	_, ok := figureOf(s)
	return ok
}

// BoxOk says whether a box is ok.
func BoxOk(b Box) bool {
	return VecOk(b.Low) && VecOk(b.High) && wayOf(b.Low).noneGreater(wayOf(b.High))
}

// ShapeBounds is the least box that has a shape at a place.
func ShapeBounds(s Shape, at Vec) Box {
	f, ok := figureOf(s)
	if !ok || !isPlace(at) {
		return Box{}
	}
	return spanAround(wayOf(at), f.reach()).box()
}

// ShapeHas says whether a shape at a place has a point.
func ShapeHas(s Shape, at Vec, p Vec) bool {
	f, ok := figureOf(s)
	if !ok || !isPlace(at) || !isPlace(p) {
		return false
	}
	return figureHas(f, wayOf(p).less(wayOf(at)))
}

// BoxMeets says whether two boxes meet.
func BoxMeets(a Box, b Box) bool {
	if !BoxOk(a) || !BoxOk(b) {
		return false
	}
	return spanOf(a).meets(spanOf(b))
}

// BoxBoth is the least box that has two.
func BoxBoth(a Box, b Box) Box {
	if !BoxOk(a) || !BoxOk(b) {
		return Box{}
	}
	return spanOf(a).both(spanOf(b)).box()
}

// BoxHas says whether a box has another one.
func BoxHas(a Box, b Box) bool {
	if !BoxOk(a) || !BoxOk(b) {
		return false
	}
	return spanOf(a).has(spanOf(b))
}

// BoxNear is the point of a box that is nearest to one.
func BoxNear(b Box, p Vec) Vec {
	if !BoxOk(b) || !VecOk(p) {
		return Vec{}
	}
	return spanOf(b).near(wayOf(p)).vec()
}
