package rangep_test

import (
	"testing"

	"tollhouse/api"
	"tollhouse/commit"
	"tollhouse/rangep"
	"tollhouse/scalar"
	"tollhouse/sha"
)

// lost is for a right proof that doesn't tell what it is made of.
func lost(t *testing.T, what string, s api.Digest, r recipe, p []byte) {
	t.Helper()
	r.verified(t, what, p)
	if value, blind, ok := rangep.Rewind(s, r.amount, r.asset, p); value != 0 || blind != none || ok {
		t.Errorf("P9.3: %s: Rewind = %d, %x, %v", what, value, blind, ok)
	}
}

func (r recipe) rewound(t *testing.T, what string, value uint64, blind api.Scalar, p []byte) {
	t.Helper()
	r.verified(t, what, p)
	got, k, ok := rangep.Rewind(r.seed, r.amount, r.asset, p)
	if got != value || k != blind || !ok {
		t.Errorf("P9.3: %s: Rewind = %d, %x, %v, want %d, %x", what, got, k, ok, value, blind)
	}
	if commit.Value(got, r.asset, k) != r.amount || got>>rangep.Bits(p) != 0 {
		t.Errorf("P9.6: %s: Rewind = %d, %x", what, got, k)
	}
}

func TestRewindOtherSeed(t *testing.T) {
	for _, bits := range []int{2, 8, 64} {
		amount, asset, p := some(t, bits)
		for _, s := range []api.Digest{noSeed, ones, sha.Of(seed[:]), {31: 31}} {
			lost(t, "another seed", s, recipe{asset: asset, amount: amount}, p)
		}
		for i := range 32 {
			if bits == 2 {
				s := seed
				s[i] ^= 1 << (i % 8)
				lost(t, "a bit of the seed is turned", s, recipe{asset: asset, amount: amount}, p)
			}
		}
	}
}

// What blinds the digits need not hang on the seed, only the signature has to.
func TestRewindFree(t *testing.T) {
	t.Parallel()
	asset := commit.Asset(peg, secondK)
	for at := range 4 {
		for next := range 4 {
			l := []api.Secret{{At: at, X: firstK}, {At: next, X: lessOne}, {At: 3, X: scalar.Of(9)}}
			r := of(asset, l...)
			value, blind := uint64(at+4*next+48), scalar.Add(firstK, scalar.Of(8))
			r.rewound(t, "three digits", value, blind, r.made(t))
			lost(t, "three digits", ones, r, r.made(t))
			r.seed = ones
			r.rewound(t, "three digits, another seed", value, blind, r.made(t))
			lost(t, "three digits, another seed", seed, r, r.made(t))
		}
	}
	r := of(asset, api.Secret{At: 1, X: none}, api.Secret{At: 2, X: none})
	r.rewound(t, "nothing that blinds", 9, none, r.made(t))
	r = of(asset, api.Secret{At: 3, X: firstK}, api.Secret{At: 3, X: scalar.Neg(firstK)})
	r.rewound(t, "what blinds makes 0", 15, none, r.made(t))
	r = of(asset, api.Secret{At: 0, X: firstK}, api.Secret{At: 0, X: lessOne})
	r.rewound(t, "the value 0", 0, scalar.Sub(firstK, one), r.made(t))
}

// A signature whose scalars hang on no seed tells nothing.
func TestRewindFreeScalars(t *testing.T) {
	r := of(commit.Asset(peg, one), api.Secret{At: 3, X: secondK})
	for _, k := range []api.Scalar{none, one, lessOne, firstK} {
		lost(t, "other scalars", seed, r, r.free(k))
	}
}

func TestRewindMostDigits(t *testing.T) {
	t.Parallel()
	for _, value := range []uint64{0, 1, 1 << 62, 1 << 63, 0x123456789abcdef1, all} {
		var l []api.Secret
		for i := range 32 {
			l = append(l, api.Secret{At: int(value >> (2 * i) % 4), X: scalar.Of(uint64(i + 1))})
		}
		r := of(commit.Asset(gold, firstK), l...)
		r.rewound(t, "32 digits", value, scalar.Of(528), r.made(t))
	}
}

func TestBits(t *testing.T) {
	if got := rangep.Bits(nil); got != 0 {
		t.Errorf("P9.4: Bits of no bytes = %d", got)
	}
	if got := rangep.Bits([]byte{}); got != 0 {
		t.Errorf("P9.4: Bits of no bytes = %d", got)
	}
	b := make([]byte, 50000)
	for first := range 256 {
		b[0] = byte(first)
		whole := lengthOf(2 * first)
		for _, length := range []int{1, 2, 32, 33, 34, 160, 161, 162, 5152, whole - 128, whole - 33, whole - 32, whole - 2, whole - 1, whole, whole + 1, whole + 2, whole + 32, whole + 33, whole + 128, whole + 161} {
			want := 0
			if first >= 1 && first <= 32 && length == whole {
				want = 2 * first
			}
			if length < 1 {
				continue
			}
			if got := rangep.Bits(b[:length]); got != want {
				t.Errorf("P9.4: Bits of %d bytes, the first one %d = %d, want %d", length, first, got, want)
			}
		}
	}
	for _, bits := range []int{2, 8, 64} {
		if _, _, p := some(t, bits); rangep.Bits(p) != bits || rangep.Bits(p[:len(p)-1]) != 0 || rangep.Bits(append(p, 0)) != 0 {
			t.Errorf("P9.4: Bits of a proof of %d bits = %d", bits, rangep.Bits(p))
		}
	}
}
