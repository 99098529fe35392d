package surject_test

import (
	"encoding/binary"
	"slices"
	"testing"

	"tollhouse/api"
	"tollhouse/curve"
	"tollhouse/ring"
	"tollhouse/scalar"
	"tollhouse/sha"
	"tollhouse/surject"
)

// free is what a proof of the chapter's form is by whoever chooses the nonce and the scalars at the other keys: all of these are k. Other than Sign, it asks for nothing, so that it also is what a proof would be where there may be none.
func (c proved) free(k api.Scalar) []byte {
	keys := c.keys()
	texts := append(c.text(), byte(len(keys)))
	for _, key := range keys {
		code := curve.Encode(key)
		texts = append(texts, code[:]...)
	}
	m := sha.Tagged("tollhouse/ring", texts)
	row := slices.Repeat([]api.Scalar{k}, len(keys))
	x := plain(k, none, base)
	for j := c.at + 1; j < len(keys); j++ {
		x = plain(k, challenge(m, x, j), keys[j])
	}
	if len(keys) == 0 {
		x = nil
	}
	first := sha.Tagged("tollhouse/first", m[:], x)
	x = first[:]
	for j := 0; j < c.at; j++ {
		x = plain(k, challenge(m, x, j), keys[j])
	}
	if len(keys) > 0 {
		row[c.at] = scalar.Sub(k, scalar.Mul(challenge(m, x, c.at), c.diff))
	}
	return written(first, row)
}

func challenge(m api.Digest, x []byte, j int) api.Scalar {
	return scalar.Reduce(sha.Tagged("tollhouse/step", m[:], x, []byte{0, byte(j)}))
}

// plain is the code of s times Base plus e times a key.
func plain(s, e api.Scalar, key api.Point) []byte {
	b := curve.Encode(plus(curve.Mul(e, key), s))
	return b[:]
}

// written is a proof with these scalars, whether they are below n or not.
func written(first api.Digest, row []api.Scalar) []byte {
	p := slices.Concat([]byte{byte(len(row))}, first[:])
	for _, k := range row {
		p = append(p, bytesOf(k)...)
	}
	return p
}

func bytesOf(k api.Scalar) []byte {
	var b []byte
	for _, word := range slices.Backward(k[:]) {
		b = binary.BigEndian.AppendUint64(b, word)
	}
	return b
}

func verified(t *testing.T, what string, from []api.Point, asset api.Point, p []byte) {
	t.Helper()
	if !surject.Verify(from, asset, p) {
		t.Errorf("P10.2: %s: Verify = false: %.200x", what, p)
	}
}

func denied(t *testing.T, what string, from []api.Point, asset api.Point, p []byte) {
	t.Helper()
	if surject.Verify(from, asset, p) {
		t.Errorf("P10.2: %s: Verify = true: %.200x", what, p)
	}
}

// some is what may be proved among so many.
func some(many int) proved { return of("some assets", seed, list(many), many/2, firstK) }

// Nothing but the relation between points and scalars counts, not where the scalars come from.
func TestVerifyFree(t *testing.T) {
	t.Parallel()
	for many := 1; many <= 4; many++ {
		for at := range many {
			for _, k := range []api.Scalar{none, one, lessOne, secondK} {
				c := of("other scalars", seed, list(many), at, firstK)
				verified(t, c.what, c.from, c.asset, c.free(k))
				c = of("other scalars, diff 0", seed, list(many), at, none)
				verified(t, c.what, c.from, c.asset, c.free(k))
			}
		}
	}
	c := some(64)
	verified(t, "as many as there may be", c.from, c.asset, c.free(one))
}

func TestVerifyOtherAsset(t *testing.T) {
	t.Parallel()
	for _, many := range []int{1, 2, 3, 64} {
		c := some(many)
		p := c.made(t)
		for _, q := range append(bad(), zero, base, curve.Neg(c.asset), plus(c.asset, one), c.from[0], c.from[many-1], hidden(99), curve.Generator(api.Digest{byte(c.at)})) {
			denied(t, "another asset", c.from, q, p)
		}
	}
}

func TestVerifyOtherList(t *testing.T) {
	t.Parallel()
	for _, many := range []int{1, 2, 3, 5} {
		c := some(many)
		p := c.made(t)
		for i := range many {
			for _, q := range append(bad(), zero, base, c.asset, curve.Neg(c.from[i]), plus(c.from[i], one), hidden(99), c.from[(i+1)%many]) {
				if q != c.from[i] {
					other := slices.Clone(c.from)
					other[i] = q
					denied(t, "another element", other, c.asset, p)
				}
			}
			for j := range i {
				other := slices.Clone(c.from)
				other[i], other[j] = other[j], other[i]
				denied(t, "two elements changed for one another", other, c.asset, p)
			}
		}
		if many > 1 {
			turned := slices.Clone(c.from)
			slices.Reverse(turned)
			denied(t, "the list from its end", turned, c.asset, p)
			denied(t, "the list from its second element", slices.Concat(c.from[1:], c.from[:1]), c.asset, p)
		}
	}
}

// first is a proof with another first byte.
func first(p []byte, b byte) []byte { return append([]byte{b}, p[1:]...) }

func TestVerifyOtherCount(t *testing.T) {
	t.Parallel()
	for _, many := range []int{1, 2, 3, 63} {
		c := some(many)
		p := c.made(t)
		for _, q := range append(bad(), zero, base, c.asset, c.from[0]) {
			for _, other := range [][]api.Point{slices.Concat(c.from, []api.Point{q}), slices.Concat([]api.Point{q}, c.from)} {
				denied(t, "an element more", other, c.asset, p)
				denied(t, "an element more, and told so", other, c.asset, first(p, byte(many+1)))
				for _, k := range [][]byte{make([]byte, 32), bytesOf(one), p[33:65]} {
					denied(t, "an element and a scalar more", other, c.asset, append(first(p, byte(many+1)), k...))
				}
			}
		}
		for i := range many {
			other := slices.Delete(slices.Clone(c.from), i, i+1)
			denied(t, "an element fewer", other, c.asset, p)
			denied(t, "an element fewer, and told so", other, c.asset, first(p, byte(many-1)))
			denied(t, "an element and its scalar fewer", other, c.asset, slices.Delete(first(p, byte(many-1)), 33+32*i, 65+32*i))
		}
		for _, b := range [][]byte{p, first(p, 0), first(p, 0)[:33], p[:33]} {
			denied(t, "no points", nil, c.asset, b)
			denied(t, "no points", []api.Point{}, c.asset, b)
			denied(t, "no points", c.from[:0], c.asset, b)
		}
		denied(t, "the list twice", slices.Concat(c.from, c.from), c.asset, p)
	}
}

// sized is a proof cut, or made longer, as another first byte says.
func sized(p []byte, b byte) []byte {
	q := make([]byte, 33+32*int(b))
	copy(q, p)
	q[0] = b
	return q
}

// A list that may not be is refused even if all that is computed comes out right.
func TestVerifyMany(t *testing.T) {
	t.Parallel()
	for _, asset := range []api.Point{zero, base, hidden(0)} {
		c := proved{asset: asset}
		denied(t, "no points", nil, asset, c.free(one))
		denied(t, "no points", []api.Point{}, asset, c.free(one))
	}
	for _, many := range []int{65, 66, 128, 255, 256, 257, 258, 320, 321} {
		l := slices.Repeat(list(2), many)[:many]
		for _, at := range []int{0, 1, 63, 64} {
			c := of("too many points", seed, l, at, firstK)
			p := c.free(one)
			denied(t, "too many points", l, c.asset, p)
			for _, b := range []byte{0, 1, 64, 65, 255} {
				denied(t, "too many points", l, c.asset, first(p, b))
				denied(t, "too many points", l, c.asset, sized(p, b))
			}
			denied(t, "too many points", l, c.asset, of("", seed, l[:64], at%64, firstK).made(t))
			denied(t, "too many points", l, c.asset, of("", seed, l[:many%256%64+1], 0, firstK).made(t))
			denied(t, "too many points, no proof", l, c.asset, nil)
		}
	}
	l := slices.Repeat([]api.Point{base}, 1<<16+1)
	denied(t, "too many points", l, base, of("", seed, l[:1], 0, none).made(t))
}

func TestVerifyFirstByte(t *testing.T) {
	t.Parallel()
	for _, many := range []int{1, 2, 3, 64} {
		c := some(many)
		p := c.made(t)
		for b := range 256 {
			if b != many {
				denied(t, "another first byte", c.from, c.asset, first(p, byte(b)))
			}
			denied(t, "a first byte too much", c.from, c.asset, append([]byte{byte(b)}, p...))
			denied(t, "nothing but a first byte", c.from, c.asset, []byte{byte(b)})
		}
		denied(t, "no first byte", c.from, c.asset, p[1:])
		denied(t, "no bytes", c.from, c.asset, nil)
		denied(t, "no bytes", c.from, c.asset, []byte{})
		denied(t, "no bytes", c.from, c.asset, p[:0])
		denied(t, "zero bytes", c.from, c.asset, make([]byte, len(p)))
		denied(t, "zero bytes", c.from, c.asset, first(make([]byte, len(p)), byte(many)))
	}
}

func TestVerifyLength(t *testing.T) {
	t.Parallel()
	for _, many := range []int{1, 2, 3, 64} {
		c := some(many)
		p := c.made(t)
		for cut := 1; cut < min(len(p), 140); cut++ {
			denied(t, "bytes too few", c.from, c.asset, p[:len(p)-cut])
			denied(t, "bytes too few", c.from, c.asset, append(p[:1:1], p[1+cut:]...))
		}
		for _, more := range []int{1, 2, 31, 32, 33, 64, 65, 129, 4096} {
			denied(t, "bytes too many", c.from, c.asset, append(slices.Clone(p), make([]byte, more)...))
			denied(t, "bytes too many", c.from, c.asset, slices.Insert(slices.Clone(p), 1, make([]byte, more)...))
		}
		denied(t, "the proof twice", c.from, c.asset, slices.Concat(p, p))
	}
	// What is missing at the end might be taken for 0.
	for many := 2; many <= 4; many++ {
		c := of("scalars 0", seed, list(many), 0, firstK)
		p := c.free(none)
		verified(t, c.what, c.from, c.asset, p)
		for cut := 1; cut <= 32*(many-1); cut++ {
			denied(t, "zero bytes too few", c.from, c.asset, p[:len(p)-cut])
			denied(t, "zero bytes too many", c.from, c.asset, append(slices.Clone(p), make([]byte, cut)...))
		}
	}
}

// A scalar that is not less than n would make the same points as that less by n does.
func TestVerifyScalar(t *testing.T) {
	t.Parallel()
	for at := range 3 {
		c := of("scalars of no seed", seed, list(3), at, firstK)
		for _, k := range []struct{ below, over api.Scalar }{{none, order}, {one, moreOne}, {scalar.Norm(highest), highest}} {
			p := c.free(k.below)
			verified(t, "scalars below n", c.from, c.asset, p)
			for j := range 3 {
				if j != at {
					denied(t, "the same scalar, but not below n", c.from, c.asset, slices.Replace(slices.Clone(p), 33+32*j, 65+32*j, bytesOf(k.over)...))
				}
			}
		}
		p := c.made(t)
		for j := range 3 {
			for _, k := range []api.Scalar{order, moreOne, {n0 + 2, n1, all - 1, all}, {0, 0, 0, all}, {0, 0, all, all}, highest} {
				denied(t, "another scalar", c.from, c.asset, slices.Replace(slices.Clone(p), 33+32*j, 65+32*j, bytesOf(k)...))
			}
		}
	}
}

func TestVerifyTurned(t *testing.T) {
	t.Parallel()
	for _, c := range []struct {
		many, step int
		by         []byte
	}{{1, 1, []byte{1, 2, 128, 255}}, {2, 1, []byte{1, 64}}, {3, 1, []byte{16}}, {64, 41, []byte{4}}} {
		s := some(c.many)
		p := s.made(t)
		for i := 0; i < len(p); i += c.step {
			for _, by := range c.by {
				p[i] ^= by
				denied(t, "a byte is changed", s.from, s.asset, p)
				p[i] ^= by
			}
		}
		verified(t, "the bytes are as before", s.from, s.asset, p)
	}
}

// A signature counts for its text and its keys only.
func TestVerifySigned(t *testing.T) {
	t.Parallel()
	c := some(3)
	signed := func(text []byte, rings [][]api.Point, l ...api.Secret) []byte {
		t.Helper()
		s, code := ring.Sign(seed, text, rings, l)
		if code != api.OK {
			t.Fatal("Sign: error", code)
		}
		return slices.Concat([]byte{3}, ring.Encode(s))
	}
	keys, own := c.keys(), api.Secret{At: 1, X: firstK}
	verified(t, "the text and the keys", c.from, c.asset, signed(c.text(), [][]api.Point{keys}, own))
	from, x := curve.Encode(c.from[1]), c.text()
	for _, text := range [][]byte{nil, from[:], x[1:], x[:32], append(c.text(), 0), append(c.text(), from[:]...), append(from[:], x...), append([]byte{3}, x...), make([]byte, 33)} {
		denied(t, "another text", c.from, c.asset, signed(text, [][]api.Point{keys}, own))
	}
	var other []api.Point
	for _, key := range keys {
		other = append(other, curve.Neg(key))
	}
	denied(t, "the list minus the asset", c.from, c.asset, signed(x, [][]api.Point{other}, api.Secret{At: 1, X: scalar.Neg(firstK)}))
	turned := slices.Clone(keys)
	slices.Reverse(turned)
	denied(t, "keys in another order", c.from, c.asset, signed(x, [][]api.Point{turned}, own))
	near := []api.Point{plus(c.asset, one), plus(c.asset, firstK), plus(c.asset, secondK)}
	c = proved{"multiples of Base", seed, near, c.asset, 1, scalar.Neg(firstK)}
	c.made(t)
	keys = c.keys()
	denied(t, "two rings", near, c.asset, signed(x, [][]api.Point{keys[:1], keys[1:]}, api.Secret{X: lessOne}, api.Secret{X: c.diff}))
	denied(t, "two rings", near, c.asset, signed(x, [][]api.Point{keys[:2], keys[2:]}, api.Secret{At: 1, X: c.diff}, api.Secret{X: scalar.Neg(secondK)}))
	denied(t, "a ring more", near[:2], c.asset, first(signed(x, [][]api.Point{keys[:2], keys[2:]}, api.Secret{At: 1, X: c.diff}, api.Secret{X: scalar.Neg(secondK)}), 2))
}

// A point that is not valid is treated as Zero.
func TestVerifyBadPoints(t *testing.T) {
	t.Parallel()
	for at := range 3 {
		for i := range 3 {
			from := list(3)
			from[i] = zero
			c := of("Zero in the list", seed, from, at, firstK)
			code := c.made(t)
			for _, p := range bad() {
				other := slices.Clone(from)
				other[i] = p
				verified(t, "a bad point for Zero", other, c.asset, code)
				verified(t, "a bad point for Zero", other, c.asset, c.free(one))
				denied(t, "a bad point for Zero, another asset", other, hidden(98), code)
				other[(i+1)%3] = p
				denied(t, "two bad points", other, c.asset, code)
			}
		}
		from := list(3)
		from[at] = curve.Neg(curve.Mul(firstK, base))
		c := of("the asset Zero", seed, from, at, firstK)
		code := c.made(t)
		for _, p := range bad() {
			verified(t, "a bad asset for Zero", from, p, code)
			denied(t, "a bad asset for Zero, another list", list(3), p, code)
		}
	}
	code := of("nothing but Zero", seed, []api.Point{zero, zero}, 0, none).made(t)
	for _, p := range append(bad(), zero) {
		verified(t, "nothing but bad points", []api.Point{p, zero}, p, code)
		verified(t, "nothing but bad points", []api.Point{{}, p}, zero, code)
		denied(t, "a bad asset", []api.Point{base, p}, p, code)
	}
}

// Where two elements are alike, their order can't be seen.
func TestVerifyAlike(t *testing.T) {
	t.Parallel()
	h := hidden(3)
	for at := range 4 {
		from := []api.Point{h, base, h, h}
		c := of("some alike", seed, from, at, secondK)
		p := c.made(t)
		from[0], from[2] = from[2], from[0]
		verified(t, c.what, from, c.asset, p)
		from[0], from[1] = from[1], from[0]
		denied(t, c.what, from, c.asset, p)
	}
}
