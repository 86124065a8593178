package impl

// Limits of shapes.
const (
	WideMax = 25600
	FarMax  = 2560000
)

// Kinds of shapes.
const (
	ShapeRound = 1
	ShapeBox   = 2
)

// Shape is round, as far as Wide from its middle, or a box, as far as Wide to each side, and High up and down.
type Shape struct {
	Kind int
	Wide int
	High int
}

// Box is from one corner to the other one.
type Box struct {
	Low  Vec
	High Vec
}

// figure is a shape that is ok, with one type for each kind.
type figure interface {
	// reach is how far it goes from its middle to each side, and up and down.
	reach() way
}

// roundFigure is what is round.
type roundFigure struct {
	wide number
}

// boxFigure is a box around its middle.
type boxFigure struct {
	wide number
	high number
}

func (f roundFigure) reach() way {
	return way{f.wide, f.wide}
}

func (f boxFigure) reach() way {
	return way{f.wide, f.high}
}

// figureOf is the figure of a shape; false, if the shape is not ok.
func figureOf(s Shape) (figure, bool) {
	switch {
	case s.Kind == ShapeRound && isSize(s.Wide) && s.High == 0:
		return roundFigure{wide: number(s.Wide)}, true
	case s.Kind == ShapeBox && isSize(s.Wide) && isSize(s.High):
		return boxFigure{wide: number(s.Wide), high: number(s.High)}, true
	}
	return nil, false
}

// figureHas says whether a figure has what is so far off its middle.
func figureHas(f figure, off way) bool {
	switch x := f.(type) {
	case roundFigure:
		return off.products(off) <= x.wide*x.wide
	case boxFigure:
		return off[0].within(x.wide) && off[1].within(x.high)
	}
	return false
}

// isSize says whether a shape may be so wide.
func isSize(n int) bool {
	return 1 <= n && n <= WideMax
}

// isPlace says whether a point is within the world.
func isPlace(p Vec) bool {
	return wayOf(p).within(FarMax)
}

// noneGreater says whether none of the numbers is greater than the other way's.
func (w way) noneGreater(o way) bool {
	return w[0] <= o[0] && w[1] <= o[1]
}

// least is the lesser of both ways, number by number.
func (w way) least(o way) way {
	return way{min(w[0], o[0]), min(w[1], o[1])}
}

// greatest is the greater of both ways, number by number.
func (w way) greatest(o way) way {
	return way{max(w[0], o[0]), max(w[1], o[1])}
}

// ShapeOk says whether a shape is ok.
func ShapeOk(s Shape) bool {
	_, ok := figureOf(s)
	return ok
}

// BoxOk says whether a box is ok.
func BoxOk(b Box) bool {
	return VecOk(b.Low) && VecOk(b.High) && wayOf(b.Low).noneGreater(wayOf(b.High))
}

// ShapeBounds is the least box that has a shape at a place.
func ShapeBounds(s Shape, at Vec) Box {
	f, ok := figureOf(s)
	if !ok || !isPlace(at) {
		return Box{}
	}
	middle := wayOf(at)
	return Box{Low: middle.less(f.reach()).vec(), High: middle.plus(f.reach()).vec()}
}

// ShapeHas says whether a shape at a place has a point.
func ShapeHas(s Shape, at Vec, p Vec) bool {
	f, ok := figureOf(s)
	if !ok || !isPlace(at) || !isPlace(p) {
		return false
	}
	return figureHas(f, wayOf(p).less(wayOf(at)))
}

// BoxMeets says whether two boxes meet.
func BoxMeets(a Box, b Box) bool {
	if !BoxOk(a) || !BoxOk(b) {
		return false
	}
	return wayOf(a.Low).noneGreater(wayOf(b.High)) && wayOf(b.Low).noneGreater(wayOf(a.High))
}

// BoxBoth is the least box that has two.
func BoxBoth(a Box, b Box) Box {
	if !BoxOk(a) || !BoxOk(b) {
		return Box{}
	}
	return Box{
		Low:  wayOf(a.Low).least(wayOf(b.Low)).vec(),
		High: wayOf(a.High).greatest(wayOf(b.High)).vec(),
	}
}

// BoxHas says whether a box has another one.
func BoxHas(a Box, b Box) bool {
	if !BoxOk(a) || !BoxOk(b) {
		return false
	}
	return wayOf(a.Low).noneGreater(wayOf(b.Low)) && wayOf(b.High).noneGreater(wayOf(a.High))
}

// BoxNear is the point of a box that is nearest to one.
func BoxNear(b Box, p Vec) Vec {
	if !BoxOk(b) || !VecOk(p) {
		return Vec{}
	}
	return wayOf(p).greatest(wayOf(b.Low)).least(wayOf(b.High)).vec()
}
