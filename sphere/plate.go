package sphere

import (
	"spyglass/api"
	"spyglass/bound"
	"spyglass/num"
	"spyglass/trig"
)

// CheckPlate validates a plate.
func CheckPlate(p api.Plate) api.Errno {
	if !inRange(p.A, api.MaxQuat) || !inRange(p.B, api.MaxQuat) || !inRange(p.C, api.MaxQuat) || !inRange(p.D, api.MaxQuat) {
		return api.ErrRange
	}
	if p == (api.Plate{}) {
		return api.ErrNone
	}
	return api.OK
}

// Plate returns a plate whose axis looks nearly in a direction, with the columns turned by roll from east toward north.
func Plate(ra, dec, roll api.Arc) (api.Plate, api.Errno) {
	if !inTurn(ra) || !inQuarters(dec) || !inTurn(roll) {
		return api.Plate{}, api.ErrRange
	}
	u, w, b := halved(roll+quarter+ra), halved(roll+quarter-ra), halved(quarter-dec)
	sin, cos := trig.Sin(b), trig.Cos(b)
	return api.Plate{
		A: product(cos, trig.Cos(u), api.MaxQuat),
		B: -product(sin, trig.Sin(w), api.MaxQuat),
		C: -product(sin, trig.Cos(w), api.MaxQuat),
		D: -product(cos, trig.Sin(u), api.MaxQuat),
	}, api.OK
}

// halved returns a / 2, rounded down.
func halved(a api.Arc) api.Arc { return api.Arc(num.FloorDiv(int64(a), 2)) }

// Rows returns the rotation matrix of a plate, times the squared length of its quaternion, and this number; of what is no plate it returns zero values.
func Rows(p api.Plate) ([3][3]int64, int64) {
	if CheckPlate(p) != api.OK {
		return [3][3]int64{}, 0
	}
	a, b, c, d := p.A, p.B, p.C, p.D
	return [3][3]int64{
		{a*a + b*b - c*c - d*d, 2 * (b*c - a*d), 2 * (b*d + a*c)},
		{2 * (b*c + a*d), a*a - b*b + c*c - d*d, 2 * (c*d - a*b)},
		{2 * (b*d - a*c), 2 * (c*d + a*b), a*a - b*b - c*c + d*d},
	}, a*a + b*b + c*c + d*d
}

// Spin returns a direction in the frame of the sensor, times the squared length of the plate's quaternion; if one of the arguments is not valid, it returns the zero value.
func Spin(p api.Plate, v api.Vec) api.Vec {
	if Check(v) != api.OK {
		return api.Vec{}
	}
	// Of what is no plate, all rows are 0.
	m, _ := Rows(p)
	return api.Vec{X: dot(row(m[0]), v), Y: dot(row(m[1]), v), Z: dot(row(m[2]), v)}
}

// row returns a row of a matrix as a vector.
func row(r [3]int64) api.Vec { return api.Vec{X: r[0], Y: r[1], Z: r[2]} }

// Pixel returns the point of a frame at which a direction is seen.
func Pixel(p api.Plate, w, h int, v api.Vec) (api.Point, api.Errno) {
	if err := checkFrame(p, w, h); err != api.OK {
		return api.Point{}, err
	}
	if err := Check(v); err != api.OK {
		return api.Point{}, err
	}
	q := Spin(p, v)
	if q.Z <= 0 {
		return api.Point{}, api.ErrRange
	}
	// The rotation leaves q shorter than 7 * 2^40, so X and Y are always within MaxNum.
	return api.Point{
		X: middle(w) + api.Sub(num.FloorDiv(api.Focal*q.X, q.Z)),
		Y: middle(h) + api.Sub(num.FloorDiv(api.Focal*q.Y, q.Z)),
	}, api.OK
}

// checkFrame validates a plate and the number of columns and rows of a frame.
func checkFrame(p api.Plate, w, h int) api.Errno {
	if err := CheckPlate(p); err != api.OK {
		return err
	}
	if w < 1 || w > api.MaxSide || h < 1 || h > api.MaxSide {
		return api.ErrRange
	}
	return api.OK
}

// middle returns the place in the middle of some cells.
func middle(cells int) api.Sub { return api.Sub(cells) * (api.Cell / 2) }

// Ray returns a box that holds each direction which is seen within the bounds of a point.
func Ray(p api.Plate, w, h int, x, y api.Bound[api.Sub]) (api.Box, api.Errno) {
	if err := checkFrame(p, w, h); err != api.OK {
		return api.Box{}, err
	}
	u, v := offset(x, w), offset(y, h)
	m, _ := Rows(p)
	component := func(i int) api.Bound[api.Coord] {
		return bound.Sum([]api.Bound[api.Coord]{
			bound.Scale(u, m[0][i], 1),
			bound.Scale(v, m[1][i], 1),
			bound.Exact(api.Coord(m[2][i] * api.Focal)),
		})
	}
	return api.Box{X: component(0), Y: component(1), Z: component(2)}, api.OK
}

// offset returns the bound of how far a place, which is known rounded down, is from the middle of some cells.
func offset(x api.Bound[api.Sub], cells int) api.Bound[api.Coord] {
	return bound.As[api.Coord](bound.Add(x, bound.Of(-middle(cells), 1-middle(cells))))
}
