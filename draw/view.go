package draw

import (
	"cmp"

	"trunnel/api"
	"trunnel/space"
)

// view is a view without errors.
type view struct {
	origin, right, up, toward space.Vector
}

// readView returns a view, and the error of CheckView.
func readView(v api.View) (view, api.Errno) {
	origin, errOrigin := space.ReadVec(v.Origin)
	right, errRight := space.ReadVec(v.Right)
	up, errUp := space.ReadVec(v.Up)
	e := cmp.Or(errOrigin, errRight, errUp)
	switch {
	case e != api.OK:
		return view{}, e
	case right.IsZero() || up.IsZero():
		return view{}, api.ErrZero
	case !right.Dot(up).IsZero():
		return view{}, api.ErrFrame
	}
	return view{origin, right, up, right.Cross(up)}, api.OK
}

// multiple returns the multiple of an axis, which is not 0, that leads as far along it as a way does.
func multiple(axis, way space.Vector) space.Number { return axis.Dot(way).Over(axis.Square()) }

// place returns the place of a point.
func (v view) place(p space.Vector) place {
	way := p.Minus(v.origin)
	return place{multiple(v.right, way), multiple(v.up, way)}
}

// depth returns how near a point is to the viewer.
func (v view) depth(p space.Vector) space.Number { return multiple(v.toward, p.Minus(v.origin)) }

// CheckView returns the first error of a view.
func CheckView(v api.View) api.Errno {
	_, e := readView(v)
	return e
}

// Place returns the place of a point on the paper.
func Place(v api.View, p api.Vec) ([2]api.Rat, api.Errno) {
	paper, errView := readView(v)
	point, errPoint := space.ReadVec(p)
	if e := cmp.Or(errView, errPoint); e != api.OK {
		return [2]api.Rat{}, e
	}
	return paper.place(point).write()
}

// Depth returns how near a point is to the viewer.
func Depth(v api.View, p api.Vec) (api.Rat, api.Errno) {
	paper, errView := readView(v)
	point, errPoint := space.ReadVec(p)
	if e := cmp.Or(errView, errPoint); e != api.OK {
		return "", e
	}
	return paper.depth(point).Write()
}

// MoveView returns a view that is moved by a frame.
func MoveView(v api.View, f api.Frame) (api.View, api.Errno) {
	if e := cmp.Or(CheckView(v), space.CheckFrame(f)); e != api.OK {
		return api.View{}, e
	}
	if !isEven(f) {
		return api.View{}, api.ErrFrame
	}
	turn := f
	turn.Origin = api.Vec{"0", "0", "0"}
	origin, errOrigin := space.Place(f, v.Origin)
	right, errRight := space.Place(turn, v.Right)
	up, errUp := space.Place(turn, v.Up)
	if e := cmp.Or(errOrigin, errRight, errUp); e != api.OK {
		return api.View{}, e
	}
	return api.View{Origin: origin, Right: right, Up: up}, api.OK
}

// isEven reports whether the axes of a frame without errors have the same length.
func isEven(f api.Frame) bool {
	var squares [3]space.Number
	for i, text := range [3]api.Vec{f.X, f.Y, f.Z} {
		axis, _ := space.ReadVec(text)
		squares[i] = axis.Square()
	}
	return squares[0].Compare(squares[1]) == 0 && squares[0].Compare(squares[2]) == 0
}

// Faces returns the views of four faces of a box.
func Faces(f api.Frame, size api.Vec) ([]api.View, api.Errno) {
	far, errSize := space.ReadVec(size)
	if e := cmp.Or(space.CheckFrame(f), errSize); e != api.OK {
		return nil, e
	}
	for _, length := range far {
		if length.Sign() <= 0 {
			return nil, api.ErrRange
		}
	}
	return each([]api.View{
		{Origin: api.Vec{"0", "0", size[2]}, Right: f.X, Up: f.Y},
		{Origin: api.Vec{"0", size[1], size[2]}, Right: f.X, Up: opposite(f.Z)},
		{Origin: api.Vec{"0", size[1], "0"}, Right: f.X, Up: opposite(f.Y)},
		{Origin: api.Vec{"0", "0", "0"}, Right: f.X, Up: f.Z},
	}, func(v api.View) (api.View, api.Errno) {
		var e api.Errno
		v.Origin, e = space.Place(f, v.Origin)
		return v, e
	})
}

// opposite returns the opposite of a vector without errors, which has as many digits.
func opposite(v api.Vec) api.Vec {
	back, _ := space.Scale("-1", v)
	return back
}
