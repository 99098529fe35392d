package ring_test

import (
	"math"
	"reflect"
	"slices"
	"testing"

	"tollhouse/api"
	"tollhouse/ring"
	"tollhouse/scalar"
)

// sizesOf are how many scalars each row has.
func sizesOf(s api.RingSig) []int {
	var l []int
	for _, row := range s.S {
		l = append(l, len(row))
	}
	return l
}

// filledRows are rows of scalars without a pattern, of which some are the least or the greatest below n.
func filledRows(sizes ...int) api.RingSig {
	s := api.RingSig{First: seed}
	for i, many := range sizes {
		var row []api.Scalar
		for j := range many {
			row = append(row, secretOf(i, j))
		}
		if many > 2 {
			row[0], row[1], row[many-1] = none, lessOne, one
		}
		s.S = append(s.S, row)
	}
	return s
}

func decoded(t *testing.T, what string, b []byte, sizes []int, want api.RingSig) {
	t.Helper()
	if s, ok := ring.Decode(b, sizes); !ok || !reflect.DeepEqual(s, want) {
		t.Errorf("P8.4: %s: Decode = %.300x, %v", what, s, ok)
	}
}

func undecoded(t *testing.T, what string, b []byte, sizes []int) {
	t.Helper()
	if s, ok := ring.Decode(b, sizes); ok || s.First != (api.Digest{}) || len(s.S) != 0 {
		t.Errorf("P8.4: %s: Decode = %.300x, %v", what, s, ok)
	}
}

func TestEncode(t *testing.T) {
	for _, sizes := range [][]int{{1}, {2}, {3}, {64}, {1, 2, 3}, {5, 1, 4}, {64, 1}, times(32, 1), times(32, 64)} {
		s := filledRows(sizes...)
		b := ring.Encode(s)
		if !slices.Equal(b, written(s)) {
			t.Errorf("P8.4: Encode of %v: %.300x", sizes, b)
		}
		decoded(t, "what Encode made", b, sizes, s)
	}
	for _, c := range signatures() {
		s := c.made(t)
		decoded(t, c.name, ring.Encode(s), sizesOf(s), s)
	}
}

// What can't be read back is written nevertheless, modulo n.
func TestEncodeAny(t *testing.T) {
	first := api.RingSig{First: ones}
	for _, rows := range [][][]api.Scalar{nil, {}, {nil}, {{}, nil}} {
		if b := ring.Encode(api.RingSig{First: ones, S: rows}); !slices.Equal(b, ones[:]) {
			t.Errorf("P8.4: Encode without scalars: %x", b)
		}
	}
	if b := ring.Encode(api.RingSig{}); !slices.Equal(b, make([]byte, 32)) {
		t.Errorf("P8.4: Encode of nothing: %x", b)
	}
	over, less := first, first
	over.S = [][]api.Scalar{nil, {order, moreOne}, {highest, lessOne, none}}
	less.S = [][]api.Scalar{{none, one, scalar.Norm(highest)}, {}, {lessOne, none}}
	if b := ring.Encode(over); !slices.Equal(b, written(less)) {
		t.Errorf("P8.4: Encode of scalars over n: %x", b)
	}
	large := filledRows(append(times(40, 1), 65, 0, 300)...)
	if b := ring.Encode(large); !slices.Equal(b, written(large)) {
		t.Error("P8.4: Encode of more than there may be")
	}
}

// The same bytes may be read as rows of other sizes.
func TestDecodeOtherSizes(t *testing.T) {
	s := filledRows(6)
	b := ring.Encode(s)
	row := s.S[0]
	decoded(t, "one row", b, []int{6}, s)
	decoded(t, "two rows", b, []int{2, 4}, api.RingSig{First: s.First, S: [][]api.Scalar{row[:2], row[2:]}})
	decoded(t, "three rows", b, []int{3, 1, 2}, api.RingSig{First: s.First, S: [][]api.Scalar{row[:3], row[3:4], row[4:]}})
	for _, sizes := range [][]int{{5}, {7}, {6, 1}, {1, 6}, {3, 2}, {2, 2, 3}, {1}, {64}} {
		undecoded(t, "sizes of another sum", b, sizes)
	}
}

func TestDecodeSizes(t *testing.T) {
	for _, sizes := range [][]int{
		nil, {}, {0}, {-1}, {65}, {1, 0}, {0, 1}, {2, 0, 1}, {2, -1}, {-1, 2}, {3, -2, 1}, {65, -64}, {-64, 65}, {64, 65}, {65, 64}, {66}, {256}, {257},
		times(33, 1), times(33, 64), times(34, 2), times(64, 1), times(257, 1), append(times(32, 1), 0), append(times(32, 1), -1),
		{math.MinInt}, {math.MaxInt}, {math.MaxInt, 1}, {math.MinInt, math.MinInt, 1}, {1 << 58}, {1<<59 + 1}, {1 << 59, 1}, {-1 << 59, 1},
	} {
		for many := range 68 {
			undecoded(t, "sizes that may not be", make([]byte, 32*many), sizes)
		}
		sum := 0
		for _, n := range sizes {
			sum += max(0, min(n, 300))
		}
		undecoded(t, "sizes that may not be, of so many bytes", make([]byte, 32+32*sum), sizes)
	}
	undecoded(t, "no bytes", nil, nil)
	undecoded(t, "no bytes", []byte{}, []int{1})
}

func TestDecodeLength(t *testing.T) {
	for _, sizes := range [][]int{{1}, {3}, {2, 2}, {64}, times(32, 1)} {
		b := ring.Encode(filledRows(sizes...))
		for _, cut := range []int{1, 2, 31, 32, 33, len(b) - 32, len(b) - 1, len(b)} {
			undecoded(t, "bytes too few", b[:len(b)-cut], sizes)
			undecoded(t, "bytes too few", b[cut:], sizes)
		}
		for _, more := range []int{1, 2, 31, 32, 33, 64, len(b)} {
			undecoded(t, "bytes too many", append(slices.Clone(b), make([]byte, more)...), sizes)
		}
	}
}

func TestDecodeNotBelow(t *testing.T) {
	sizes := []int{2, 1, 3}
	right := filledRows(sizes...)
	for i, row := range right.S {
		for j := range row {
			s := copied(right)
			for _, k := range []api.Scalar{order, moreOne, {n0, n1, all, all}, {n0, n1 + 1, all - 1, all}, {0, 0, all, all}, highest} {
				s.S[i][j] = k
				undecoded(t, "a scalar that is not below n", written(s), sizes)
			}
			for _, k := range []api.Scalar{none, one, lessOne, {all, n1 - 1, all - 1, all}, {all, all, all - 2, all}, {all, all, all, all - 1}} {
				s.S[i][j] = k
				decoded(t, "a scalar below n", written(s), sizes, s)
			}
		}
	}
	// First is no number.
	right.First = ones
	decoded(t, "a First of ones", written(right), sizes, right)
}

func TestDecodeIsNew(t *testing.T) {
	sizes := append([]int{2, 3, 1}, 9)
	want := filledRows(sizes[:3]...)
	whole := append(ring.Encode(want), 7, 7)
	b := whole[:len(whole)-2]
	for i := range 3 {
		s, ok := ring.Decode(b, sizes[:3])
		if !ok {
			t.Fatal("P8.4: Decode = false")
		}
		overwritten(s.S[i], highest)
		s.S[i] = want.S[i]
		if !reflect.DeepEqual(s, want) {
			t.Errorf("R5: row %d of Decode lies in another one", i)
		}
		overwritten(s.S, nil)
	}
	if !slices.Equal(whole, append(ring.Encode(want), 7, 7)) || !slices.Equal(sizes, []int{2, 3, 1, 9}) {
		t.Error("R5: Decode changed an argument")
	}
	s, _ := ring.Decode(b, sizes[:3])
	overwritten(whole, 0)
	overwritten(sizes, 0)
	if !reflect.DeepEqual(s, want) {
		t.Error("R5: Decode kept an argument")
	}
	overwritten(ring.Encode(want), 0)
	if !slices.Equal(ring.Encode(want), written(want)) {
		t.Error("R5: Encode keeps its bytes")
	}
}
