package ring

import (
	"slices"

	"tollhouse/api"
	"tollhouse/curve"
	"tollhouse/scalar"
	"tollhouse/sha"
)

// bound is what a signature is about: rings of which there may be one, and the digest that stands for them and for the text.
type bound struct {
	rings [][]api.Point
	m     api.Digest
}

// bind tells the digest how many keys a ring has as well, since otherwise the same keys in other rings would have the same digest.
func bind(text []byte, rings [][]api.Point) bound {
	texts := [][]byte{text}
	for _, keys := range rings {
		texts = append(texts, []byte{byte(len(keys))})
		for _, key := range keys {
			texts = append(texts, code(key))
		}
	}
	return bound{rings, sha.Tagged("tollhouse/ring", texts...)}
}

func code(p api.Point) []byte {
	c := curve.Encode(p)
	return c[:]
}

// challenge is the number that a key has to answer, behind some bytes.
func (b bound) challenge(x []byte, i, j int) api.Scalar {
	return scalar.Reduce(sha.Tagged("tollhouse/step", b.m[:], x, []byte{byte(i), byte(j)}))
}

// answer is the code of the point that a scalar and a challenge make with a key.
func answer(s, e api.Scalar, key api.Point) []byte {
	return code(curve.Multi([]api.Term{{K: s, P: curve.Base()}, {K: e, P: key}}))
}

// first is what all rings begin with: it hangs on the points that they end with, which closes them.
func (b bound) first(ends [][]byte) api.Digest {
	return sha.Tagged("tollhouse/first", slices.Concat([][]byte{b.m[:]}, ends)...)
}

// nonce is the number that hides the secret of a ring; fake what stands at a key whose secret is not used. They hang on the seed, so that whoever has it can tell the secrets.
func (b bound) nonce(seed api.Digest, i int) api.Scalar {
	return scalar.Reduce(sha.Tagged("tollhouse/nonce", seed[:], b.m[:], []byte{byte(i)}))
}

func (b bound) fake(seed api.Digest, i, j int) api.Scalar {
	return scalar.Reduce(sha.Tagged("tollhouse/fake", seed[:], b.m[:], []byte{byte(i), byte(j)}))
}

// fakes are those of all keys of all rings.
func (b bound) fakes(seed api.Digest) [][]api.Scalar {
	all := make([][]api.Scalar, len(b.rings))
	for i, keys := range b.rings {
		for j := range keys {
			all[i] = append(all[i], b.fake(seed, i, j))
		}
	}
	return all
}

// sign makes a signature by secrets that fit. What stands before a secret's key hangs on the first bytes, and these hang on what stands behind it.
func (b bound) sign(seed api.Digest, l []api.Secret) api.RingSig {
	s := api.RingSig{S: b.fakes(seed)}
	var ends [][]byte
	for i, secret := range l {
		x := code(curve.Mul(b.nonce(seed, i), curve.Base()))
		ends = append(ends, b.along(x, s.S[i], i, secret.At+1, len(s.S[i])))
	}
	s.First = b.first(ends)
	for i, secret := range l {
		x := b.along(s.First[:], s.S[i], i, 0, secret.At)
		e := b.challenge(x, i, secret.At)
		s.S[i][secret.At] = scalar.Sub(b.nonce(seed, i), scalar.Mul(e, secret.X))
	}
	return s
}

// along goes from key to key of a ring, and turns the bytes before them into the bytes behind them.
func (b bound) along(x []byte, row []api.Scalar, i, from, to int) []byte {
	for j := from; j < to; j++ {
		x = answer(row[j], b.challenge(x, i, j), b.rings[i][j])
	}
	return x
}

// challenges are those at all keys of all rings; false: the signature is not right.
func (b bound) challenges(s api.RingSig) ([][]api.Scalar, bool) {
	if len(s.S) != len(b.rings) {
		return nil, false
	}
	all := make([][]api.Scalar, len(b.rings))
	var ends [][]byte
rings:
	for i, row := range s.S {
		if len(row) != len(b.rings[i]) {
			break rings
		}
		x := s.First[:]
		for j, k := range row {
			if scalar.Norm(k) != k {
				break rings
			}
			e := b.challenge(x, i, j)
			all[i] = append(all[i], e)
			x = answer(k, e, b.rings[i][j])
		}
		ends = append(ends, x)
	}
	// A ring that was left, or not come to, has no end.
	if len(ends) != len(b.rings) || b.first(ends) != s.First {
		return nil, false
	}
	return all, true
}

// secrets are those that rows of a right signature hide, behind its challenges; false: they were not made with this seed.
func (b bound) secrets(seed api.Digest, rows, e [][]api.Scalar) ([]api.Secret, bool) {
	var l []api.Secret
	for i, row := range rows {
		secret, ok := b.secret(seed, i, row, e[i])
		if !ok {
			return nil, false
		}
		l = append(l, secret)
	}
	return l, true
}

// secret is what a row hides at the first key where no fake stands.
func (b bound) secret(seed api.Digest, i int, row, e []api.Scalar) (api.Secret, bool) {
	at := 0
	for at < len(row) && row[at] == b.fake(seed, i, at) {
		at++
	}
	if at == len(row) || e[at] == scalar.Of(0) {
		return api.Secret{}, false
	}
	x := scalar.Mul(scalar.Sub(b.nonce(seed, i), row[at]), scalar.Inv(e[at]))
	if !opens(x, b.rings[i][at]) {
		return api.Secret{}, false
	}
	return api.Secret{At: at, X: x}, true
}
