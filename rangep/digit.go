package rangep

import (
	"tollhouse/api"
	"tollhouse/scalar"
	"tollhouse/sha"
)

// base is how many values a digit may have; most is how many digits there may be.
const (
	base = 4
	most = 32
)

// worth is what a digit counts at its place.
func worth(digit, place int) uint64 { return uint64(digit) << (2 * place) }

// secrets are the digits of a value, and what blinds each of them; the last of these makes their sum what blinds the value.
func secrets(seed api.Digest, o api.Opening, many int) []api.Secret {
	var l []api.Secret
	rest := o.Amount
	for i := range many {
		x := rest
		if i < many-1 {
			x = scalar.Reduce(sha.Tagged("tollhouse/digit", seed[:], []byte{byte(i)}))
		}
		rest = scalar.Sub(rest, x)
		l = append(l, api.Secret{At: int(o.Value >> (2 * i) % base), X: x})
	}
	return l
}

// joined is the value of some digits, and what blinds it.
func joined(l []api.Secret) (uint64, api.Scalar) {
	var value uint64
	var blind api.Scalar
	for i, secret := range l {
		value += worth(secret.At, i)
		blind = scalar.Add(blind, secret.X)
	}
	return value, blind
}
