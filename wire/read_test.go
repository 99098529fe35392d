package wire_test

import (
	"fmt"
	"math"
	"math/big"
	"slices"
	"testing"

	"tollhouse/api"
)

// spoilt are bytes that can't stand in the place of a piece.
func spoilt(p piece) [][]byte {
	var l [][]byte
	switch p.what {
	case aTruth:
		for n := 2; n < 256; n++ {
			l = append(l, []byte{byte(n)})
		}
	case aKind:
		for n := range 256 {
			if n < p.least || n > p.most {
				l = append(l, []byte{byte(n)})
			}
		}
	case aCount:
		n := count(p.b)
		longer := [][]byte{slices.Concat([]byte{253}, fixed(n, 2)), slices.Concat([]byte{254}, fixed(n, 4)), slices.Concat([]byte{255}, fixed(n, 8))}
		for _, b := range longer {
			if len(b) > len(p.b) {
				l = append(l, b)
			}
		}
		for _, n := range []uint64{uint64(p.most) + 1, 1 << 16, 1 << 31, 1 << 32, 1 << 62, 1 << 63, math.MaxUint64} {
			l = append(l, varOf(n))
		}
	case aPoint:
		l = spoiltPoints(p.b)
	case aScalar:
		for _, n := range []*big.Int{order(), plus(order(), 1), near(256, -1)} {
			l = append(l, n.FillBytes(make([]byte, 32)))
		}
	}
	return l
}

// spoiltPoints are bytes of no point but Zero; those of a right one are given.
func spoiltPoints(right []byte) [][]byte {
	l := [][]byte{
		make([]byte, 33),
		slices.Concat([]byte{2}, make([]byte, 32)),
		slices.Concat([]byte{3}, make([]byte, 24), fixed(5, 8)), // no point has X 5
		slices.Concat([]byte{0}, make([]byte, 24), fixed(1, 8)),
	}
	for _, first := range []byte{0, 1, 4, 5, 6, 7, 0x82, 255} {
		l = append(l, slices.Concat([]byte{first}, right[1:]))
	}
	for _, n := range []*big.Int{prime(), plus(prime(), 1), near(256, -1)} {
		l = append(l, append([]byte{2}, n.FillBytes(make([]byte, 32))...))
	}
	return l
}

// count is the number of a short Var.
func count(b []byte) uint64 {
	if b[0] < 253 {
		return uint64(b[0])
	}
	n := uint64(0)
	for _, c := range b[1:] {
		n = n<<8 | uint64(c)
	}
	return n
}

// allowed are other bytes that can stand in the place of a piece.
func allowed(p piece) [][]byte {
	var l [][]byte
	switch p.what {
	case anOctet:
		for n := range 256 {
			l = append(l, []byte{byte(n)})
		}
	case aPoint:
		for n := 1; n < 4; n++ {
			s := &sheet{}
			s.point(point(n))
			l = append(l, s.bytes())
		}
	case aScalar:
		for _, s := range []api.Scalar{{}, {1}, lastScalar()} {
			l = append(l, words(s))
		}
	case plain:
		if len(p.b) > 0 {
			l = append(l, make([]byte, len(p.b)))
		}
	}
	return l
}

func (k thing[T]) testPieces(t *testing.T) {
	s := sheetOf(k.full(1), k.lay)
	for i, p := range s.l {
		what := fmt.Sprintf("piece %d of kind %d", i, p.what)
		for _, b := range spoilt(p) {
			k.unread(t, what+" spoilt", s.instead(i, b))
		}
		for _, b := range allowed(p) {
			k.reads(t, what+" exchanged", s.instead(i, b))
		}
		if p.what != aCount {
			continue
		}
		// What is said to follow isn't there.
		for _, n := range []uint64{count(p.b) + 1, uint64(p.most), uint64(p.most) + 1, 1 << 40, 1 << 63, math.MaxUint64} {
			cut := joined(s.l[:i])
			k.unread(t, what+" cut off", slices.Concat(cut, varOf(n)))
			k.unread(t, what+" cut off, with a byte", slices.Concat(cut, varOf(n), []byte{0}))
		}
	}
}

// reads holds bytes to be an encoding: the bytes of what is read from them.
func (k thing[T]) reads(t *testing.T, what string, b []byte) {
	t.Helper()
	x, code := k.read(b)
	if code != api.OK || string(sheetOf(x, k.lay).bytes()) != string(b) {
		t.Errorf("P12.2: %s: %s: %s is read as %d, %s", k.name, what, short(b), code, brief(x))
	}
}

// TestPieces: each item of an encoding, spoilt in each way there is.
func TestPieces(t *testing.T) { each(t, subject.testPieces) }

func (k thing[T]) testCuts(t *testing.T) {
	var zero T
	for _, x := range []T{k.full(1), k.full(2), zero} {
		b := sheetOf(x, k.lay).bytes()
		for n := range b {
			k.unread(t, fmt.Sprint("the first ", n, " bytes"), b[:n])
		}
		for _, more := range []byte{0, 1, 253, 255} {
			k.unread(t, "one byte more", append(slices.Clone(b), more))
		}
		k.unread(t, "itself once more", slices.Concat(b, b))
	}
	k.unread(t, "no bytes", nil)
	k.unread(t, "no bytes", []byte{})
	for n := range 256 {
		k.unread(t, "one byte", []byte{byte(n)})
		k.unread(t, "many bytes", slices.Repeat([]byte{byte(n)}, 3000))
	}
}

// TestCuts: beginnings of an encoding, and what is longer than one.
func TestCuts(t *testing.T) { each(t, subject.testCuts) }
