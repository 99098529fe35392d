package curve

import (
	"slices"

	"tollhouse/api"
	"tollhouse/fe"
	"tollhouse/scalar"
)

// many is how many terms Multi works on at once, so that long lists need no more memory.
const many = 32

// Multi is the sum of some multiples.
func Multi(l []api.Term) api.Point {
	var sum triple
	for some := range slices.Chunk(l, many) {
		sum = add(sum, multi(some))
	}
	return point(sum)
}

// multi goes through the digits of all factors at once, the highest first, so that the doublings are made once for all terms.
func multi(l []api.Term) triple {
	terms := make([]term, len(l))
	for i, t := range l {
		terms[i] = term{digits(t.K), fewTimes(right(t.P))}
	}
	var sum triple
	for i := range 64 {
		for range 4 {
			sum = double(sum)
		}
		for j := range terms {
			sum = add(sum, terms[j].at(i))
		}
	}
	return sum
}

// term is a factor by its digits, the highest first, and a point by what its digits can make of it.
type term struct {
	digits [64]byte
	times  [16]triple
}

// at is what one digit makes of the point.
func (t *term) at(digit int) triple { return t.times[t.digits[digit]] }

// digits are those of a number modulo n to the base 16.
func digits(k api.Scalar) [64]byte {
	var d [64]byte
	for i, b := range scalar.Bytes(k) {
		d[2*i], d[2*i+1] = b>>4, b&15
	}
	return d
}

// fewTimes is a point 0 to 15 times.
func fewTimes(p api.Point) [16]triple {
	var l [16]triple
	one := three(p)
	for i := 1; i < len(l); i++ {
		l[i] = add(l[i-1], one)
	}
	return l
}

// triple is a point as x / z^2 and y / z^3, and Zero where z is 0: thus sums are made without an inverse, which takes far longer than products do.
type triple struct {
	x, y, z api.Fe
}

// three is a valid point as a triple.
func three(p api.Point) triple {
	if p == Zero() {
		return triple{}
	}
	return triple{p.X, p.Y, fe.Of(1)}
}

// point is what a triple stands for.
func point(t triple) api.Point {
	if t.z == fe.Of(0) {
		return Zero()
	}
	inverse := fe.Inv(t.z)
	second := fe.Mul(inverse, inverse)
	return api.Point{X: fe.Mul(t.x, second), Y: fe.Mul(t.y, fe.Mul(second, inverse))}
}

// add is the sum of two, as Add has it: brought to one denominator, the X differ by across, the Y by up.
func add(a, b triple) triple {
	if a.z == fe.Of(0) {
		return b
	}
	if b.z == fe.Of(0) {
		return a
	}
	x, y := widened(a, b.z)
	otherX, otherY := widened(b, a.z)
	across, up := fe.Sub(otherX, x), fe.Sub(otherY, y)
	if across == fe.Of(0) && up == fe.Of(0) {
		return double(a)
	}
	second := fe.Mul(across, across)
	third := fe.Mul(second, across)
	x = fe.Mul(x, second)
	var s triple
	s.x = fe.Sub(fe.Sub(fe.Mul(up, up), third), fe.Add(x, x))
	s.y = fe.Sub(fe.Mul(up, fe.Sub(x, s.x)), fe.Mul(y, third))
	s.z = fe.Mul(fe.Mul(a.z, b.z), across)
	return s
}

// widened are x and y over a denominator that is by times greater.
func widened(t triple, times api.Fe) (x, y api.Fe) {
	second := fe.Mul(times, times)
	return fe.Mul(t.x, second), fe.Mul(t.y, fe.Mul(second, times))
}

// double is a triple and itself: over the denominator 2 y z, its slope is 3 x^2.
func double(a triple) triple {
	square := fe.Mul(a.x, a.x)
	up := fe.Add(fe.Add(square, square), square)
	second := twice(fe.Mul(a.y, a.y))
	x := twice(fe.Mul(a.x, second))
	var s triple
	s.x = fe.Sub(fe.Mul(up, up), twice(x))
	s.y = fe.Sub(fe.Mul(up, fe.Sub(x, s.x)), twice(fe.Mul(second, second)))
	s.z = twice(fe.Mul(a.y, a.z))
	return s
}

func twice(a api.Fe) api.Fe { return fe.Add(a, a) }
