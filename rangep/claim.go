package rangep

import (
	"slices"

	"tollhouse/api"
	"tollhouse/commit"
	"tollhouse/curve"
	"tollhouse/ring"
	"tollhouse/scalar"
)

// claim is what a proof is about: the point of an asset, and that of an amount of it.
type claim struct {
	asset, amount api.Point
}

// right tells whether there may be a proof.
func (c claim) right() bool {
	tag, amount := api.Tag{Blind: true, Point: c.asset}, api.Amount{Blind: true, Point: c.amount}
	return commit.RightTag(tag) && commit.RightAmount(amount)
}

// text is what a proof's signature signs.
func (c claim) text() []byte { return slices.Concat(code(c.asset), code(c.amount)) }

func code(p api.Point) []byte {
	b := curve.Encode(p)
	return b[:]
}

// prove makes a proof by the secrets of all digits. The last commitment is left out, since it follows from the others.
func (c claim) prove(seed api.Digest, l []api.Secret) []byte {
	proof := []byte{byte(len(l))}
	var parts []api.Point
	for i, secret := range l {
		part := commit.Value(worth(secret.At, i), c.asset, secret.X)
		parts = append(parts, part)
		if i < len(l)-1 {
			proof = append(proof, code(part)...)
		}
	}
	// No error: each secret is that of its digit's key.
	s, _ := ring.Sign(seed, c.text(), c.rings(parts), l)
	return append(proof, ring.Encode(s)...)
}

// rings are the keys of all digits. All of them lie in one list, each at its place.
func (c claim) rings(parts []api.Point) [][]api.Point {
	all := make([]api.Point, base*len(parts))
	for i, part := range parts {
		keys := c.keys(part, i)
		copy(all[base*i:], keys[:])
	}
	return slices.Collect(slices.Chunk(all, base))
}

// keys are those of one digit: what is left of its commitment without 0, 1, 2 and 3 times what it counts at its place.
func (c claim) keys(part api.Point, place int) [base]api.Point {
	less := curve.Neg(curve.Mul(scalar.Of(worth(1, place)), c.asset))
	var l [base]api.Point
	for j := range l {
		l[j] = part
		part = curve.Add(part, less)
	}
	return l
}

// signed are the rings of a proof, and their signature; false: the proof has not the right form, or there may be none.
func (c claim) signed(proof []byte) ([][]api.Point, api.RingSig, bool) {
	parts, s, ok := read(proof)
	if !ok || !c.right() {
		return nil, api.RingSig{}, false
	}
	last := curve.Add(c.amount, curve.Neg(curve.Sum(slices.Values(parts))))
	return c.rings(append(parts, last)), s, true
}
