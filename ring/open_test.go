package ring_test

import (
	"slices"
	"testing"

	"tollhouse/api"
	"tollhouse/curve"
	"tollhouse/ring"
	"tollhouse/scalar"
)

// closed is for a right signature that doesn't open.
func closed(t *testing.T, what string, c signed, s api.RingSig) {
	t.Helper()
	if !ring.Verify(c.text, c.rings, s) {
		t.Errorf("P8.1: %s: Verify = false", what)
	}
	if l, ok := ring.Open(c.seed, c.text, c.rings, s); ok || len(l) != 0 {
		t.Errorf("P8.3: %s: Open = %x, %v", what, l, ok)
	}
}

func TestOpenEachKey(t *testing.T) {
	for many := 1; many <= 6; many++ {
		for at := range many {
			c := signed{"a grid", seed, abc, grid(many, 2, many), known(at, at%2, many-1-at), ""}
			c.opened(t, c.made(t))
		}
	}
}

// A secret that is not below n is told below n; one that stands for several keys is told at the one that it was used at.
func TestOpenTellsBelow(t *testing.T) {
	p := curve.Mul(scalar.Norm(highest), base)
	for _, l := range [][]api.Secret{secret(0, highest), secret(2, scalar.Norm(highest)), secret(3, highest)} {
		c := signed{"2^256 - 1", seed, abc, only(p, base, p, p), l, ""}
		c.opened(t, c.made(t))
	}
	for _, l := range [][]api.Secret{secret(0, none), secret(1, order), secret(1, none)} {
		c := signed{"Zero", seed, abc, only(zero, zero), l, ""}
		c.opened(t, c.made(t))
	}
	for _, x := range []api.Scalar{one, moreOne} {
		c := signed{"Base", seed, abc, only(zero, base, zero), secret(1, x), ""}
		c.opened(t, c.made(t))
	}
}

func TestOpenOtherSeed(t *testing.T) {
	for _, c := range []signed{
		{"one key", seed, abc, only(base), secret(0, one), ""},
		{"Zero", seed, abc, only(zero), secret(0, none), ""},
		{"a grid", seed, abc, grid(3, 1, 2), known(1, 0, 1), ""},
		{"secrets at the first keys", seed, abc, grid(3, 2), known(0, 0), ""},
		{"secrets at the last keys", seed, abc, grid(3, 2), known(2, 1), ""},
	} {
		s := c.made(t)
		for bit := range 256 {
			other := c
			other.seed[bit/8] ^= 1 << (bit % 8)
			closed(t, c.name+", by another seed", other, s)
		}
		for _, other := range []api.Digest{{}, ones, s.First} {
			closed(t, c.name+", by another seed", signed{"", other, abc, c.rings, nil, ""}, s)
		}
	}
}

// Behind the secrets' keys, nothing that they are told by would be changed, but the signature isn't right any more.
func TestOpenNotRight(t *testing.T) {
	c := signed{"a grid", seed, abc, grid(3, 4), known(0, 1), ""}
	right := c.made(t)
	for _, at := range [][2]int{{0, 1}, {0, 2}, {1, 2}, {1, 3}} {
		for _, k := range []api.Scalar{none, one, lessOne, order, highest, scalar.Add(right.S[at[0]][at[1]], one)} {
			s := copied(right)
			s.S[at[0]][at[1]] = k
			denied(t, "a scalar behind the secret's", abc, c.rings, s)
		}
	}
	denied(t, "a row too much", abc, c.rings, api.RingSig{First: right.First, S: append(copied(right).S, right.S[0])})
	denied(t, "a row too little", abc, c.rings, api.RingSig{First: right.First, S: right.S[:1]})
	denied(t, "a scalar too much", abc, c.rings, api.RingSig{First: right.First, S: [][]api.Scalar{append(slices.Clone(right.S[0]), one), right.S[1]}})
	denied(t, "a scalar too little", abc, c.rings, api.RingSig{First: right.First, S: [][]api.Scalar{right.S[0][:2], right.S[1]}})
	denied(t, "a ring too little", abc, c.rings[:1], api.RingSig{First: right.First, S: right.S[:1]})
}

// The first key where no placeholder stands counts, and the nonce has to be the seed's.
func TestOpenOfOthersHands(t *testing.T) {
	c := signed{"a grid", seed, abc, grid(3, 3), known(1, 1), ""}
	own := c.told()
	for i := range 2 {
		for j := range 3 {
			r := own
			r.other = func(row, at int, e api.Scalar) api.Scalar {
				k := own.other(row, at, e)
				if row == i && at == j {
					return scalar.Add(k, one)
				}
				return k
			}
			switch j {
			case 0:
				closed(t, "another scalar before the secret's", c, r.made())
			default:
				c.opened(t, r.made())
			}
		}
		r := own
		r.nonce = func(ring int) api.Scalar {
			if ring == i {
				return scalar.Add(own.nonce(ring), one)
			}
			return own.nonce(ring)
		}
		closed(t, "another nonce", c, r.made())
		r.nonce = func(int) api.Scalar { return own.nonce(1 - i) }
		closed(t, "another ring's nonce", c, r.made())
	}
	closed(t, "no placeholders", c, free(abc, c.rings, c.l).made())
}

// Whoever knows two keys of a ring can hide both secrets in one row: the first one is told.
func TestOpenFirstOfTwo(t *testing.T) {
	for at := 1; at < 4; at++ {
		for two := range at {
			c := signed{"a grid", seed, abc, grid(4, 2), known(at, 1), ""}
			r := c.told()
			fake, nonce := r.other, r.nonce
			r.other = func(i, j int, e api.Scalar) api.Scalar {
				if i == 0 && j == two {
					return scalar.Sub(nonce(0), scalar.Mul(e, secretOf(0, two)))
				}
				return fake(i, j, e)
			}
			s := r.made()
			c.l = known(two, 1)
			c.opened(t, s)
			r.nonce = func(i int) api.Scalar { return scalar.Add(nonce(i), scalar.Of(uint64(1-i))) }
			c.opened(t, r.made())
		}
	}
}

// What is told are always secrets of the keys.
func TestOpenTellsSecrets(t *testing.T) {
	for _, c := range signatures() {
		s := c.made(t)
		for _, by := range []api.Digest{c.seed, {}, ones, seed} {
			l, ok := ring.Open(by, c.text, c.rings, s)
			if ok != (by == c.seed) || ok != (len(l) == len(c.rings)) {
				t.Errorf("P8.3: %s: Open = %d secrets, %v", c.name, len(l), ok)
			}
			for i, k := range l {
				if curve.Mul(k.X, base) != c.rings[i][k.At] || k.X != scalar.Norm(k.X) {
					t.Errorf("P8.6: %s: %x is no secret", c.name, k)
				}
			}
		}
	}
}
