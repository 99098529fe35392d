package ring

import (
	"slices"

	"tollhouse/api"
	"tollhouse/scalar"
)

// size is how many bytes the first ones are, and each scalar.
const size = 32

// Encode writes a signature.
func Encode(s api.RingSig) []byte {
	b := slices.Clone(s.First[:])
	for _, k := range slices.Concat(s.S...) {
		c := scalar.Bytes(k)
		b = append(b, c[:]...)
	}
	return b
}

// Decode reads a signature of rings of these sizes; false: there is none.
func Decode(b []byte, sizes []int) (api.RingSig, bool) {
	if !allowed(sizes) || len(b) != length(sizes) {
		return api.RingSig{}, false
	}
	s := api.RingSig{First: api.Digest(b[:size])}
	b = b[size:]
	for _, many := range sizes {
		row, ok := scalars(b[:many*size])
		if !ok {
			return api.RingSig{}, false
		}
		s.S = append(s.S, row)
		b = b[many*size:]
	}
	return s, true
}

// length is how many bytes a signature of such rings has.
func length(sizes []int) int {
	sum := size
	for _, many := range sizes {
		sum += many * size
	}
	return sum
}

// scalars reads a row; false: one of them is not less than n.
func scalars(b []byte) ([]api.Scalar, bool) {
	var row []api.Scalar
	for c := range slices.Chunk(b, size) {
		k, ok := scalar.Read([size]byte(c))
		if !ok {
			return nil, false
		}
		row = append(row, k)
	}
	return row, true
}
