package rangep_test

import (
	"slices"
	"testing"

	"tollhouse/api"
	"tollhouse/commit"
	"tollhouse/curve"
	"tollhouse/rangep"
	"tollhouse/ring"
	"tollhouse/scalar"
	"tollhouse/sha"
)

// recipe is what a proof can be made of by whoever chooses all parts freely.
type recipe struct {
	seed          api.Digest // of the signature
	asset, amount api.Point
	l             []api.Secret // the digits, and what blinds each of them
}

// of is a recipe whose amount is what the digits make.
func of(asset api.Point, l ...api.Secret) recipe {
	r := recipe{seed, asset, zero, l}
	for _, part := range r.parts() {
		r.amount = curve.Add(r.amount, part)
	}
	return r
}

// weight is what a digit 1 counts.
func weight(place int) api.Scalar {
	k := one
	for range place {
		k = scalar.Mul(k, scalar.Of(4))
	}
	return k
}

func (r recipe) parts() []api.Point {
	var l []api.Point
	for i, secret := range r.l {
		k := scalar.Mul(scalar.Of(uint64(secret.At)), weight(i))
		l = append(l, curve.Add(curve.Mul(k, r.asset), curve.Mul(secret.X, base)))
	}
	return l
}

func (r recipe) rings() [][]api.Point {
	var l [][]api.Point
	for i, part := range r.parts() {
		var keys []api.Point
		for j := range uint64(4) {
			k := scalar.Mul(scalar.Of(j), weight(i))
			keys = append(keys, curve.Add(part, curve.Neg(curve.Mul(k, r.asset))))
		}
		l = append(l, keys)
	}
	return l
}

func (r recipe) text() []byte {
	a, c := curve.Encode(r.asset), curve.Encode(r.amount)
	return append(a[:], c[:]...)
}

// joined is a proof of some points, whose number is told in the first byte, and of a signature.
func joined(parts []api.Point, s api.RingSig) []byte {
	p := []byte{byte(len(parts))}
	for _, part := range parts[:len(parts)-1] {
		c := curve.Encode(part)
		p = append(p, c[:]...)
	}
	return append(p, ring.Encode(s)...)
}

func (r recipe) made(t *testing.T) []byte {
	t.Helper()
	s, code := ring.Sign(r.seed, r.text(), r.rings(), r.l)
	if code != api.OK {
		t.Fatalf("Sign: error %d", code)
	}
	return joined(r.parts(), s)
}

// free is a proof of the digit 3, whose signature has the scalar k at the keys that are not used.
func (r recipe) free(k api.Scalar) []byte {
	rings, s := r.rings(), api.RingSig{S: [][]api.Scalar{{k, k, k, none}}}
	texts := append(r.text(), 4)
	for _, key := range rings[0] {
		c := curve.Encode(key)
		texts = append(texts, c[:]...)
	}
	m := sha.Tagged("tollhouse/ring", texts)
	challenge := func(x []byte, j int) api.Scalar {
		return scalar.Reduce(sha.Tagged("tollhouse/step", m[:], x, []byte{0, byte(j)}))
	}
	end := curve.Encode(curve.Mul(firstK, base))
	s.First = sha.Tagged("tollhouse/first", m[:], end[:])
	x := s.First[:]
	for j := range 3 {
		c := curve.Encode(curve.Add(curve.Mul(k, base), curve.Mul(challenge(x, j), rings[0][j])))
		x = c[:]
	}
	s.S[0][3] = scalar.Sub(firstK, scalar.Mul(challenge(x, 3), r.l[0].X))
	return joined(r.parts(), s)
}

func (r recipe) verified(t *testing.T, what string, p []byte) {
	t.Helper()
	if !rangep.Verify(r.amount, r.asset, p) {
		t.Errorf("P9.2: %s: Verify = false", what)
	}
}

// denied is for what neither Verify nor Rewind may accept.
func denied(t *testing.T, what string, amount, asset api.Point, p []byte) {
	t.Helper()
	if rangep.Verify(amount, asset, p) {
		t.Errorf("P9.2: %s: Verify = true: %x", what, p)
	}
	if value, blind, ok := rangep.Rewind(seed, amount, asset, p); value != 0 || blind != none || ok {
		t.Errorf("P9.3: %s: Rewind = %d, %x, %v: %x", what, value, blind, ok, p)
	}
}

// bad are points that are not valid.
func bad() []api.Point {
	next := base
	next.Y[0]++
	over := api.Point{X: api.Fe{0xfffffffefffffc30, all, all, all}} // p + 1
	if p, ok := curve.Lift(api.Key{31: 1}); ok {
		over.Y = p.Y // that of the point with the X 1
	}
	spoilt := base
	spoilt.Inf = true
	return []api.Point{{}, {X: api.Fe{1}, Inf: true}, {Y: api.Fe{1}, Inf: true}, spoilt, next, over, {X: base.Y, Y: base.X}}
}

// some is a proof by Prove, with its points.
func some(t *testing.T, bits int) (amount, asset api.Point, p []byte) {
	t.Helper()
	value := uint64(0x9c3a5f0be1d24786) >> (64 - bits)
	c := proved{seed, api.Opening{Asset: peg, Value: value, Tag: firstK, Amount: secondK}, bits, ""}
	return c.amount(), c.asset(), c.made(t)
}

// Nothing but the relation between points and scalars counts, not where the scalars come from.
func TestVerifyFree(t *testing.T) {
	for at := range 4 {
		for _, k := range []api.Scalar{one, lessOne, firstK} {
			for _, asset := range []api.Point{commit.Asset(peg, secondK), commit.Asset(gold, none), base, curve.Neg(base)} {
				r := of(asset, api.Secret{At: at, X: k}, api.Secret{At: 3 - at, X: k})
				r.verified(t, "two digits", r.made(t))
			}
		}
	}
	r := of(commit.Asset(peg, one), api.Secret{At: 3, X: secondK})
	for _, k := range []api.Scalar{none, one, lessOne} {
		r.verified(t, "other scalars", r.free(k))
	}
}

// A commitment may be Zero, and so may each of the keys; also the last one, which doesn't stand in the proof.
func TestVerifyZeroParts(t *testing.T) {
	asset := commit.Asset(peg, secondK)
	for i := range 3 {
		for at := range 4 {
			l := []api.Secret{{At: 1, X: one}, {At: 2, X: firstK}, {At: 3, X: lessOne}}
			l[i] = api.Secret{At: at}
			r := of(asset, l...)
			r.verified(t, "a part that nothing blinds", r.made(t))
		}
	}
}

func TestVerifyOtherPoints(t *testing.T) {
	for _, bits := range []int{2, 4, 8} {
		amount, asset, p := some(t, bits)
		for _, q := range append(bad(), zero, base, asset, curve.Neg(amount), curve.Add(amount, base), curve.Add(amount, asset), commit.Asset(peg, none), commit.Asset(gold, firstK)) {
			denied(t, "another amount", q, asset, p)
			if q != asset {
				denied(t, "another asset", amount, q, p)
				denied(t, "other points", q, q, p)
			}
		}
		denied(t, "another asset", amount, amount, p)
		denied(t, "another asset", amount, curve.Neg(asset), p)
		denied(t, "the points changed for one another", asset, amount, p)
	}
}

// Zero is refused even where all that is computed comes out right; so is what is not valid, which package curve takes for Zero.
func TestVerifyZero(t *testing.T) {
	asset := commit.Asset(peg, secondK)
	for _, k := range []api.Scalar{none, firstK} {
		r := of(asset, api.Secret{X: k}, api.Secret{X: scalar.Neg(k)})
		for _, amount := range append(bad(), zero) {
			denied(t, "an amount that is Zero", amount, asset, r.made(t))
		}
		r = of(zero, api.Secret{At: 1, X: one}, api.Secret{At: 2, X: k})
		for _, a := range append(bad(), zero) {
			denied(t, "an asset that is Zero", r.amount, a, r.made(t))
		}
		r = of(zero, api.Secret{At: 3, X: k}, api.Secret{X: scalar.Neg(k)})
		denied(t, "both Zero", zero, zero, r.made(t))
	}
	for _, asset := range []api.Point{asset, zero} {
		r := of(asset, api.Secret{})
		denied(t, "an amount that is Zero", zero, asset, r.made(t))
	}
}

func TestVerifyFirstByte(t *testing.T) {
	for _, bits := range []int{2, 8, 64} {
		amount, asset, p := some(t, bits)
		for first := range 256 {
			if first != bits/2 {
				p[0] = byte(first)
				denied(t, "another first byte", amount, asset, p)
			}
		}
		p[0] = byte(bits / 2)
		denied(t, "no first byte", amount, asset, p[1:])
		for _, first := range []byte{0, 33} {
			denied(t, "a first byte too much", amount, asset, append([]byte{first}, p...))
		}
	}
	amount, asset, _ := some(t, 2)
	denied(t, "no bytes", amount, asset, nil)
	denied(t, "no bytes", amount, asset, []byte{})
	for _, many := range []int{0, 1, 2, 32, 33, 128, 255} {
		for _, length := range []int{1, 2, 33, 128, 160, 161, 162, 5152, 5313, max(1, lengthOf(2*many))} {
			p := make([]byte, length)
			p[0] = byte(many)
			denied(t, "zero bytes", amount, asset, p)
		}
	}
}

func TestVerifyLength(t *testing.T) {
	for _, bits := range []int{2, 4, 8, 64} {
		amount, asset, p := some(t, bits)
		for _, cut := range []int{1, 2, 31, 32, 33, 64, 128, 160} {
			denied(t, "bytes too few", amount, asset, p[:len(p)-cut])
			denied(t, "bytes too few", amount, asset, append(p[:1:1], p[1+cut:]...))
		}
		for _, more := range []int{1, 2, 31, 32, 33, 64, 128, 161} {
			denied(t, "bytes too many", amount, asset, append(slices.Clone(p), make([]byte, more)...))
			denied(t, "bytes too many", amount, asset, slices.Insert(slices.Clone(p), 1, make([]byte, more)...))
		}
	}
}

// A point has one code only.
func TestVerifyCode(t *testing.T) {
	for _, bits := range []int{4, 8} {
		amount, asset, p := some(t, bits)
		for at := 1; at < 1+33*(bits/2-1); at += 33 {
			right := p[at]
			for first := range 256 {
				if p[at] = byte(first); p[at] != right {
					denied(t, "another first byte of a point", amount, asset, p)
				}
			}
			p[at] = right
		}
	}
}

// What is no point might pass for one that is easily taken in its place.
func TestVerifyCommitment(t *testing.T) {
	code := curve.Encode(commit.Asset(peg, firstK))
	other := func(first byte, x []byte) []byte { return append([]byte{first}, x...) }
	least := make([]byte, 32)
	over := append(slices.Repeat([]byte{255}, 27), 254, 255, 255, 252, 0x2f) // p
	for i := range 6 {
		l := []api.Secret{{At: 1, X: one}, {At: 2, X: firstK}, {At: 3, X: lessOne}, {At: 1, X: secondK}}
		l[i/2] = api.Secret{X: scalar.Of(uint64(i % 2))} // of Zero, or of Base
		r := of(commit.Asset(gold, secondK), l...)
		p := r.made(t)
		r.verified(t, "a part that is Zero, or Base", p)
		for _, c := range [][]byte{
			other(1, least), other(2, least), other(3, least), other(4, least), other(255, least), append(slices.Clone(least), 1), other(0, code[1:]), other(1, code[1:]), other(4, code[1:]), other(7, code[1:]),
			other(2, over), other(3, over), other(2, slices.Repeat([]byte{255}, 32)), slices.Repeat([]byte{255}, 33), code[:],
		} {
			denied(t, "what is no code of Zero, nor of Base", r.amount, r.asset, slices.Replace(slices.Clone(p), 1+33*(i/2), 34+33*(i/2), c...))
		}
	}
}

func TestVerifyScalar(t *testing.T) {
	r := of(commit.Asset(peg, one), api.Secret{At: 3, X: secondK})
	for _, c := range []struct{ k, over api.Scalar }{{none, order}, {one, moreOne}, {scalar.Norm(highest), highest}} {
		p := r.free(c.k)
		r.verified(t, "a scalar below n", p)
		for j := range 3 {
			q := slices.Clone(p)
			for i, word := range c.over {
				for b := range 8 {
					q[33+32*j+31-8*i-b] = byte(word >> (8 * b))
				}
			}
			denied(t, "the same scalar, but not below n", r.amount, r.asset, q)
		}
	}
	amount, asset, p := some(t, 6)
	for at := 1 + 33*2 + 32; at < len(p); at += 32 {
		k := scalar.Bytes(lessOne)
		for range 3 { // n, n + 1, n + 2
			k[31]++
			denied(t, "a scalar that is not below n", amount, asset, slices.Replace(slices.Clone(p), at, at+32, k[:]...))
		}
		denied(t, "2^256 - 1", amount, asset, slices.Replace(slices.Clone(p), at, at+32, ones[:]...))
	}
}

func TestVerifyTurned(t *testing.T) {
	t.Parallel()
	for _, c := range []struct {
		bits, step int
		by         []byte
	}{{2, 1, []byte{1, 2, 128, 255}}, {8, 1, []byte{1}}, {64, 499, []byte{4}}} {
		amount, asset, p := some(t, c.bits)
		for i := 0; i < len(p); i += c.step {
			for _, by := range c.by {
				p[i] ^= by
				denied(t, "a byte is changed", amount, asset, p)
				p[i] ^= by
			}
		}
	}
}

// The points of a proof stand for their places, and its signature for its text.
func TestVerifyOrder(t *testing.T) {
	asset := commit.Asset(peg, secondK)
	r := of(asset, api.Secret{At: 1, X: one}, api.Secret{At: 2, X: firstK}, api.Secret{At: 3, X: lessOne})
	p := r.made(t)
	denied(t, "points in another order", r.amount, asset, slices.Concat(p[:1], p[34:67], p[1:34], p[67:]))
	denied(t, "rows in another order", r.amount, asset, slices.Concat(p[:99], p[99+128:99+256], p[99:99+128], p[99+256:]))
	parts := r.parts()
	a, c := curve.Encode(r.asset), curve.Encode(r.amount)
	for _, text := range [][]byte{nil, a[:], c[:], append(c[:], a[:]...)} {
		s, code := ring.Sign(seed, text, r.rings(), r.l)
		if code != api.OK {
			t.Fatal("Sign: error", code)
		}
		denied(t, "another text", r.amount, asset, joined(parts, s))
	}
	rings := r.rings()
	slices.Reverse(rings[1])
	r.l[1].At = 3 - r.l[1].At
	s, code := ring.Sign(seed, r.text(), rings, r.l)
	if code != api.OK {
		t.Fatal("Sign: error", code)
	}
	denied(t, "keys in another order", r.amount, asset, joined(parts, s))
}
