package rangep

import (
	"slices"

	"tollhouse/api"
	"tollhouse/curve"
	"tollhouse/ring"
)

// How many bytes there are of a point, and of a signature's scalar.
const (
	pointSize  = 33
	scalarSize = 32
)

// digits is how many a proof has; 0: its first byte is not right, or its length.
func digits(proof []byte) int {
	if len(proof) == 0 {
		return 0
	}
	many := int(proof[0])
	if many < 1 || many > most || len(proof) != length(many) {
		return 0
	}
	return many
}

// length is how many bytes a proof of so many digits has: their number, the points, and the signature.
func length(many int) int {
	return signatureAt(many) + scalarSize + base*scalarSize*many
}

// signatureAt is where the signature begins.
func signatureAt(many int) int { return 1 + pointSize*(many-1) }

// read tells the commitments that a proof names, and its signature; false: it has not the right form.
func read(proof []byte) ([]api.Point, api.RingSig, bool) {
	many := digits(proof)
	if many == 0 {
		return nil, api.RingSig{}, false
	}
	at := signatureAt(many)
	parts, right := points(proof[1:at])
	s, ok := ring.Decode(proof[at:], slices.Repeat([]int{base}, many))
	return parts, s, right && ok
}

// points reads some points; false: one of them is none.
func points(b []byte) ([]api.Point, bool) {
	var l []api.Point
	for c := range slices.Chunk(b, pointSize) {
		p, ok := curve.Decode(c)
		if !ok {
			return nil, false
		}
		l = append(l, p)
	}
	return l, true
}
