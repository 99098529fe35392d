package ring_test

import (
	"slices"
	"testing"

	"tollhouse/api"
	"tollhouse/curve"
	"tollhouse/ring"
	"tollhouse/scalar"
	"tollhouse/sha"
)

// recipe is what makes a signature that Verify accepts: nonces and the scalars at the keys whose secrets aren't used may be any.
type recipe struct {
	text  []byte
	rings [][]api.Point
	m     api.Digest
	l     []api.Secret
	nonce func(i int) api.Scalar
	other func(i, j int, e api.Scalar) api.Scalar // e: the challenge at that key
}

// told has the nonces and scalars that Sign takes.
func (c signed) told() recipe {
	m := digest(c.text, c.rings)
	return recipe{c.text, c.rings, m, c.l,
		func(i int) api.Scalar {
			return scalar.Reduce(sha.Tagged("tollhouse/nonce", c.seed[:], m[:], []byte{byte(i)}))
		},
		func(i, j int, _ api.Scalar) api.Scalar {
			return scalar.Reduce(sha.Tagged("tollhouse/fake", c.seed[:], m[:], []byte{byte(i)}, []byte{byte(j)}))
		},
	}
}

// free has nonces and scalars of no seed.
func free(text []byte, rings [][]api.Point, l []api.Secret) recipe {
	return recipe{text, rings, digest(text, rings), l,
		func(i int) api.Scalar { return scalar.Of(uint64(i) + 1000) },
		func(i, j int, _ api.Scalar) api.Scalar { return scalar.Of(uint64(100*i + j + 1)) },
	}
}

// digest is m of the chapter.
func digest(text []byte, rings [][]api.Point) api.Digest {
	b := slices.Clone(text)
	for _, keys := range rings {
		b = append(b, byte(len(keys)))
		for _, key := range keys {
			code := curve.Encode(key)
			b = append(b, code[:]...)
		}
	}
	return sha.Tagged("tollhouse/ring", b)
}

func challenge(m api.Digest, x []byte, i, j int) api.Scalar {
	return scalar.Reduce(sha.Tagged("tollhouse/step", m[:], x, []byte{byte(i)}, []byte{byte(j)}))
}

// step fills the place of a key, and is the code of the point there.
func (r recipe) step(s api.RingSig, x []byte, i, j int) []byte {
	e := challenge(r.m, x, i, j)
	s.S[i][j] = r.other(i, j, e)
	p := curve.Add(curve.Mul(s.S[i][j], base), curve.Mul(e, r.rings[i][j]))
	code := curve.Encode(p)
	return code[:]
}

// made leaves a ring without keys as it is.
func (r recipe) made() api.RingSig {
	s := api.RingSig{S: make([][]api.Scalar, len(r.rings))}
	ends := slices.Clone(r.m[:])
	for i, keys := range r.rings {
		s.S[i] = make([]api.Scalar, len(keys))
		if len(keys) == 0 {
			continue
		}
		code := curve.Encode(curve.Mul(r.nonce(i), base))
		x := code[:]
		for j := r.l[i].At + 1; j < len(keys); j++ {
			x = r.step(s, x, i, j)
		}
		ends = append(ends, x...)
	}
	s.First = sha.Tagged("tollhouse/first", ends)
	for i, keys := range r.rings {
		if len(keys) == 0 {
			continue
		}
		x := s.First[:]
		at := r.l[i].At
		for j := range at {
			x = r.step(s, x, i, j)
		}
		s.S[i][at] = scalar.Sub(r.nonce(i), scalar.Mul(challenge(r.m, x, i, at), r.l[i].X))
	}
	return s
}

// copied is a signature that may be changed.
func copied(s api.RingSig) api.RingSig {
	c := api.RingSig{First: s.First}
	for _, row := range s.S {
		c.S = append(c.S, slices.Clone(row))
	}
	return c
}

func verified(t *testing.T, what string, r recipe, s api.RingSig) {
	t.Helper()
	if !ring.Verify(r.text, r.rings, s) {
		t.Errorf("P8.1: %s: Verify = false", what)
	}
}

// denied is for what neither Verify nor Open may accept.
func denied(t *testing.T, what string, text []byte, rings [][]api.Point, s api.RingSig) {
	t.Helper()
	if ring.Verify(text, rings, s) {
		t.Errorf("P8.1: %s: Verify = true", what)
	}
	if l, ok := ring.Open(seed, text, rings, s); ok || len(l) != 0 {
		t.Errorf("P8.3: %s: Open = %x, %v", what, l, ok)
	}
}

// Nothing but the relation between the scalars counts, not where they come from.
func TestVerifyFree(t *testing.T) {
	for at := range 3 {
		r := free(abc, grid(3, 1, 4), known(at, 0, at+1))
		verified(t, "other nonces", r, r.made())
		for _, k := range []api.Scalar{none, one, lessOne} {
			r.nonce = func(int) api.Scalar { return k }
			verified(t, "the same nonces", r, r.made())
			r.other = func(int, int, api.Scalar) api.Scalar { return k }
			verified(t, "the same scalars", r, r.made())
		}
		r.other = func(_, _ int, e api.Scalar) api.Scalar { return scalar.Neg(e) }
		verified(t, "scalars that hang on the challenges", r, r.made())
	}
}

// What a scalar and a challenge make may be Zero.
func TestVerifyZeroOnTheWay(t *testing.T) {
	for at := range 3 {
		r := free(abc, grid(3), known(at))
		r.other = func(i, j int, e api.Scalar) api.Scalar { return scalar.Neg(scalar.Mul(e, secretOf(i, j))) }
		verified(t, "Zero at the other keys", r, r.made())
		r.nonce = func(int) api.Scalar { return none }
		verified(t, "Zero at all keys", r, r.made())
	}
}

func TestVerifyTurnedBits(t *testing.T) {
	c := signed{"a grid", seed, abc, grid(2, 1), known(0, 0), ""}
	right := c.made(t)
	for bit := range 256 {
		s := copied(right)
		s.First[bit/8] ^= 1 << (bit % 8)
		denied(t, "a bit of First is turned", abc, c.rings, s)
		for i, row := range right.S {
			for j := range row {
				s := copied(right)
				s.S[i][j][bit/64] ^= 1 << (bit % 64)
				denied(t, "a bit of a scalar is turned", abc, c.rings, s)
			}
		}
	}
}

func TestVerifyOtherFirst(t *testing.T) {
	c := signed{"a grid", seed, abc, grid(1, 2), known(0, 1), ""}
	s := c.made(t)
	m := digest(abc, c.rings)
	for _, first := range []api.Digest{{}, ones, m, seed, sha.Tagged("tollhouse/first", m[:])} {
		s.First = first
		denied(t, "another First", abc, c.rings, s)
	}
	denied(t, "no signature", abc, c.rings, api.RingSig{})
	denied(t, "scalars 0", abc, c.rings, api.RingSig{S: [][]api.Scalar{make([]api.Scalar, 1), make([]api.Scalar, 2)}})
}

func TestVerifyOtherText(t *testing.T) {
	for _, text := range [][]byte{nil, {0}, abc, long} {
		c := signed{"a grid", seed, text, grid(2, 2), known(1, 0), ""}
		s := c.made(t)
		for _, other := range [][]byte{nil, {0}, {0, 0}, abc, abc[1:], append(slices.Clone(text), 0), append([]byte{1}, text...), long[1:], long[:999]} {
			if !slices.Equal(text, other) {
				denied(t, "another text", other, c.rings, s)
			}
		}
	}
	c := signed{"a grid", seed, nil, grid(2), known(1), ""}
	if s := c.made(t); !ring.Verify([]byte{}, c.rings, s) || !ring.Verify(nil, c.rings, s) {
		t.Error("R4: the empty text is another one than no text")
	}
}

func TestVerifyOtherKeys(t *testing.T) {
	rings, l := grid(3, 2), known(1, 0)
	s := free(abc, rings, l).made()
	for i := range rings {
		for j, key := range rings[i] {
			for _, p := range []api.Point{zero, base, keyOf(9, 9), curve.Neg(key), rings[i][(j+1)%len(rings[i])]} {
				other := grid(3, 2)
				other[i][j] = p
				denied(t, "another key", abc, other, s)
			}
		}
	}
	a, b := rings[0], rings[1]
	denied(t, "keys in another order", abc, [][]api.Point{{a[1], a[0], a[2]}, b}, s)
	denied(t, "rings in another order", abc, [][]api.Point{b, a}, s)
	denied(t, "rings and rows in another order", abc, [][]api.Point{b, a}, api.RingSig{First: s.First, S: [][]api.Scalar{s.S[1], s.S[0]}})
	denied(t, "a ring less", abc, rings[:1], s)
	denied(t, "a ring more", abc, append(slices.Clone(rings), b), s)
}

// The same keys in the same order, but in rings of other sizes, are other rings.
func TestVerifyOtherSizes(t *testing.T) {
	keys := slices.Concat(grid(3, 2)...)
	s := free(abc, grid(3, 2), known(1, 0)).made()
	scalars := slices.Concat(s.S...)
	for _, cut := range []int{1, 2, 4} {
		other := api.RingSig{First: s.First, S: [][]api.Scalar{scalars[:cut], scalars[cut:]}}
		denied(t, "the keys cut elsewhere", abc, [][]api.Point{keys[:cut], keys[cut:]}, other)
	}
	denied(t, "the keys in one ring", abc, only(keys...), api.RingSig{First: s.First, S: [][]api.Scalar{scalars}})
}

// A count or a key might pass for a part of the text, if they weren't told apart by where they stand.
func TestVerifyTextOrKeys(t *testing.T) {
	rings := grid(2, 2)
	s := free(abc, rings, known(1, 1)).made()
	text := append(slices.Clone(abc), 2)
	for _, key := range rings[0] {
		code := curve.Encode(key)
		text = append(text, code[:]...)
	}
	denied(t, "a ring as text", text, rings[1:], api.RingSig{First: s.First, S: s.S[1:]})
}

// Rings that may not be are refused even if all that is computed comes out right.
func TestVerifyRingForm(t *testing.T) {
	for _, sizes := range [][]int{nil, {0}, {0, 1}, {2, 0, 1}, {1, 0}, times(33, 1), times(34, 1), times(256, 1), times(257, 1), {65}, {66}, {1, 65}, {65, 1}, {256}, {257}} {
		r := free(abc, grid(sizes...), known(times(len(sizes), 0)...))
		s := r.made()
		denied(t, "rings that may not be", abc, r.rings, s)
		denied(t, "rings that may not be", nil, r.rings, s)
		denied(t, "rings that may not be, and no signature", abc, r.rings, api.RingSig{})
	}
	denied(t, "an empty list of rings", abc, [][]api.Point{}, free(abc, nil, nil).made())
	for _, sizes := range [][]int{{64}, {64, 1}, times(32, 1)} {
		r := free(abc, grid(sizes...), known(times(len(sizes), 0)...))
		verified(t, "as many as there may be", r, r.made())
	}
}

// A point that is not valid is taken for Zero by package curve, which alone would be a key.
func TestVerifyBadPoints(t *testing.T) {
	for i := range 2 {
		for j := range 3 {
			rings, l := grid(3, 3), known(1, 2)
			rings[i][j] = zero
			if l[i].At == j {
				l[i].X = none
			}
			c := signed{"with Zero", seed, abc, rings, l, ""}
			s := c.made(t)
			c.opened(t, s)
			for _, p := range bad() {
				rings[i][j] = p
				denied(t, "a point that is not valid", abc, rings, s)
				denied(t, "a point that is not valid", abc, rings, free(abc, rings, l).made())
			}
		}
	}
}

func TestVerifyRows(t *testing.T) {
	r := free(abc, grid(2, 3), known(1, 0))
	s := r.made()
	a, b := s.S[0], s.S[1]
	more := func(row []api.Scalar, k api.Scalar) []api.Scalar { return append(slices.Clone(row), k) }
	for _, rows := range [][][]api.Scalar{
		nil, {}, {nil, nil}, {a}, {b}, {b, a}, {a, a}, {b, b}, {a, b, nil}, {nil, a, b}, {a, b, b}, {a, nil, b},
		{a, nil}, {nil, b}, {a[:1], b}, {a, b[:2]}, {a[1:], b}, {a, b[1:]}, {a, b[:0]}, {slices.Concat(a, b)}, {slices.Concat(a, b), nil},
		{more(a, none), b}, {a, more(b, none)}, {more(a, b[0]), b[1:]}, {more(a, one), b}, {more(a, order), b}, {a, more(b, order)}, {a, b, {none}},
	} {
		denied(t, "other rows", abc, r.rings, api.RingSig{First: s.First, S: rows})
	}
	verified(t, "the rows", r, api.RingSig{First: s.First, S: [][]api.Scalar{a, b}})
}

// Rows that end too early, or too late, are refused even where what they end with makes First.
func TestVerifyRowsThatClose(t *testing.T) {
	whole := grid(3, 2)
	for _, sizes := range [][]int{{2, 2}, {1, 2}, {3, 1}, {1, 1}, {4, 2}, {3, 3}, {3}, {3, 2, 1}} {
		r := free(abc, grid(sizes...), known(times(len(sizes), 0)...))
		r.m = digest(abc, whole)
		denied(t, "rows of other sizes", abc, whole, r.made())
	}
	r := free(abc, whole[:1], known(1))
	r.m = digest(abc, whole)
	s := r.made()
	for _, row := range [][]api.Scalar{nil, {}, {one}, {order, one}, {one, order}, {highest, highest}, {one, one}, {one, one, one}} {
		denied(t, "a ring that makes no part of First", abc, whole, api.RingSig{First: s.First, S: [][]api.Scalar{s.S[0], row}})
	}
}

// A scalar that is not less than n would make the same points as that less by n does.
func TestVerifyNotBelow(t *testing.T) {
	for at := range 3 {
		r := free(abc, grid(3, 2, 3), known(at, at%2, 2-at))
		for word := range uint64(2) {
			r.other = func(int, int, api.Scalar) api.Scalar { return api.Scalar{word} }
			right := r.made()
			verified(t, "small scalars", r, right)
			for i, row := range right.S {
				for j, k := range row {
					if k != (api.Scalar{word}) {
						continue
					}
					s := copied(right)
					s.S[i][j] = api.Scalar{n0 + word, n1, all - 1, all}
					denied(t, "a scalar plus n", abc, r.rings, s)
				}
			}
		}
		r.other = func(int, int, api.Scalar) api.Scalar { return scalar.Norm(highest) }
		right := r.made()
		verified(t, "what is left of 2^256 - 1", r, right)
		for i, row := range right.S {
			for j := range row {
				if s := copied(right); s.S[i][j] == scalar.Norm(highest) {
					s.S[i][j] = highest
					denied(t, "2^256 - 1", abc, r.rings, s)
				}
			}
		}
	}
}
