package sig

import (
	"slices"
	"testing"

	"tollhouse/api"
	"tollhouse/curve"
	"tollhouse/scalar"
)

// No text is known of which the nonce is 0 modulo n.
func TestSignWithoutNonce(t *testing.T) {
	d := scalar.Of(3)
	key, _ := Public(d)
	for _, k := range []api.Scalar{{}, {0xbfd25e8cd0364141, 0xbaaedce6af48a03b, 0xfffffffffffffffe, 0xffffffffffffffff}} {
		if s, ok := sign(d, key, []byte("abc"), k); s != (api.Sig{}) || ok {
			t.Errorf("P6.2: with the nonce %x: %x, %v", k, s, ok)
		}
	}
}

// wider is a number written in 32 bytes, plus another one, where both have a sum in 32 bytes.
func wider(a, b [32]byte) [32]byte {
	over := 0
	for i := range slices.Backward(a[:]) {
		over += int(a[i]) + int(b[i])
		a[i] = byte(over)
		over >>= 8
	}
	return a
}

// p and n in 32 bytes.
func pBytes() [32]byte {
	b := [32]byte(slices.Repeat([]byte{0xff}, 32))
	b[27], b[30], b[31] = 0xfe, 0xfc, 0x2f
	return b
}

func nBytes() [32]byte {
	b := scalar.Bytes(scalar.Neg(scalar.Of(1)))
	b[31]++
	return b
}

// The numbers of a signature that are not less than p or n would pass where those less by p or n do: texts with such a signature aren't known, but challenges and points are.
func TestAnswersBelow(t *testing.T) {
	one := [32]byte{31: 1}
	r, ok := curve.Lift(api.Key(one))
	if !ok {
		t.Fatal("1 is no X")
	}
	for i := range 8 {
		z := scalar.Of(uint64(i))
		small, e := scalar.Bytes(z), scalar.Of(1)
		point := curve.Add(curve.Mul(z, curve.Base()), curve.Neg(r))
		for _, c := range []struct {
			x, z [32]byte
			want bool
		}{
			{one, small, true},
			{wider(one, pBytes()), small, false},
			{one, wider(small, nBytes()), false},
			{wider(one, pBytes()), wider(small, nBytes()), false},
		} {
			s := api.Sig(slices.Concat(c.x[:], c.z[:]))
			if got := answers(s, e, point); got != c.want {
				t.Errorf("P6.3: the numbers %x and %x: %v", c.x, c.z, got)
			}
			if answers(s, e, curve.Sum(slices.Values([]api.Point{point, r, r}))) {
				t.Errorf("P6.3: yes to an odd Y, of the numbers %x and %x", c.x, c.z)
			}
		}
	}
}

// The point of a signature that answers with nothing but the secret's part is Zero, which no X stands for.
func TestAnswersZero(t *testing.T) {
	z := scalar.Bytes(scalar.Of(12))
	for _, x := range [][32]byte{{}, {31: 1}, pBytes()} {
		s := api.Sig(slices.Concat(x[:], z[:]))
		if answers(s, scalar.Of(4), curve.Mul(scalar.Of(3), curve.Base())) {
			t.Errorf("P6.3: yes to Zero, with the first number %x", x)
		}
	}
}

// Nothing of a signature goes unread, even where the challenge doesn't hang on it.
func TestAnswersTurnedBits(t *testing.T) {
	e, point := scalar.Of(5), curve.Mul(scalar.Of(3), curve.Base())
	x, _ := Public(scalar.Of(2))
	z := scalar.Bytes(scalar.Of(17)) // 17 - 5 * 3 is 2, and 2 times Base has an even Y
	s := api.Sig(slices.Concat(x[:], z[:]))
	if !answers(s, e, point) {
		t.Error("P6.3: no to a right answer")
	}
	for i := range 8 * len(s) {
		other := s
		other[i/8] ^= 1 << (i % 8)
		if answers(other, e, point) {
			t.Errorf("P6.3: yes with bit %d turned", i)
		}
	}
}
