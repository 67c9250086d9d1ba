package tile

import "spyglass/api"

// zone is given by the normals of planes through the center of the sphere. It has the vectors that lie behind none of these planes.
type zone []api.Vec

// has reports whether the scalar product of a vector with none of the normals is negative.
func (z zone) has(v api.Vec) bool {
	for _, n := range z {
		if dot(n, v) < 0 {
			return false
		}
	}
	return true
}

// hasAny reports whether a zone that is a part of a tile has a direction.
// It has no direction together with the opposite one; so if it has any, it has one that lies in two of the planes.
func (z zone) hasAny() bool {
	for _, a := range z {
		for _, b := range z {
			// The components are at most 2^41, so the scalar products with the normals, which are directions, fit.
			if edge := cross(a, b); edge != (api.Vec{}) && z.has(edge) {
				return true
			}
		}
	}
	return false
}

// dot returns the scalar product of two vectors.
func dot(a, b api.Vec) int64 { return a.X*b.X + a.Y*b.Y + a.Z*b.Z }

// cross returns the vector product of two vectors.
func cross(a, b api.Vec) api.Vec {
	return api.Vec{X: a.Y*b.Z - a.Z*b.Y, Y: a.Z*b.X - a.X*b.Z, Z: a.X*b.Y - a.Y*b.X}
}

// foot returns the projection of v onto the plane with the normal n, multiplied by the square of the length of n.
// If v is a direction and n the normal of a side, the components are at most 2^46, and the scalar products with such normals fit.
func foot(v, n api.Vec) api.Vec {
	a, b := dot(n, n), dot(n, v)
	return api.Vec{X: a*v.X - b*n.X, Y: a*v.Y - b*n.Y, Z: a*v.Z - b*n.Z}
}
