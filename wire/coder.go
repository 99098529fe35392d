package wire

import (
	"math"

	"tollhouse/api"
	"tollhouse/codec"
	"tollhouse/curve"
	"tollhouse/scalar"
)

// coder goes through a thing, and either writes it to bytes or fills it from bytes: it takes it, for short. So each type is told once for both ways, and they can't differ.
type coder struct {
	to   *codec.Writer // nil, if it reads
	from *codec.Reader // nil, if it writes
	bad  bool          // what was written has no encoding
}

// write is a thing as bytes.
func write[T any](x T, one func(c *coder, x *T)) ([]byte, api.Errno) {
	c := &coder{to: codec.New()}
	one(c, &x)
	if c.bad {
		return nil, api.ErrWireForm
	}
	return c.to.Bytes(), api.OK
}

// read is the thing that all of some bytes stand for.
func read[T any](b []byte, one func(c *coder, x *T)) (T, api.Errno) {
	var x, none T
	c := &coder{from: codec.Read(b)}
	one(c, &x)
	if c.from.End() != api.OK {
		return none, api.ErrWireForm
	}
	return x, api.OK
}

func (c *coder) reads() bool { return c.from != nil }

// must tells what has to hold of a thing that has an encoding.
func (c *coder) must(hold bool) {
	switch {
	case hold:
	case c.reads():
		c.from.Fail(api.ErrWireForm)
	default:
		c.bad = true
	}
}

// item takes what the codec has a call for.
func item[T any](c *coder, x *T, put func(w *codec.Writer, x T), get func(r *codec.Reader) T) {
	if c.reads() {
		*x = get(c.from)
	} else {
		put(c.to, *x)
	}
}

// list takes a list of at most so many elements.
func list[T any](c *coder, l *[]T, most int, one func(c *coder, x *T)) {
	if c.reads() {
		*l = codec.List(c.from, most, func(*codec.Reader) T {
			var x T
			one(c, &x)
			return x
		})
		return
	}
	c.must(len(*l) <= most)
	// However long a list is, what is given up isn't gone through.
	if !c.bad {
		codec.Put(c.to, *l, func(_ *codec.Writer, x T) { one(c, &x) })
	}
}

// octet takes a number that has one byte.
func (c *coder) octet(n *int) {
	if c.reads() {
		*n = int(c.from.Byte())
	} else {
		c.must(*n >= 0 && *n <= math.MaxUint8)
		c.to.Byte(byte(*n))
	}
}

func (c *coder) truth(b *bool) {
	n := 0
	if *b {
		n = 1
	}
	c.octet(&n)
	c.must(n <= 1)
	*b = n == 1
}

func (c *coder) word(n *uint32) { item(c, n, (*codec.Writer).Word, (*codec.Reader).Word) }

func (c *coder) long(n *uint64) { item(c, n, (*codec.Writer).Long, (*codec.Reader).Long) }

// raw takes bytes that are always as many.
func (c *coder) raw(b []byte) {
	if c.reads() {
		copy(b, c.from.Raw(len(b)))
	} else {
		c.to.Raw(b)
	}
}

// text takes at most so many bytes.
func (c *coder) text(b *[]byte, most int) {
	if c.reads() {
		*b = c.from.Text(most)
	} else {
		c.must(len(*b) <= most)
		c.to.Text(*b)
	}
}

func (c *coder) digest(d *api.Digest) { c.raw(d[:]) }

func (c *coder) key(k *api.Key) { c.raw(k[:]) }

// point takes a point of the curve, but not the one at infinity: both that and what is no point are written, and read, as Zero.
func (c *coder) point(p *api.Point) {
	b := curve.Encode(*p)
	c.raw(b[:])
	if c.reads() {
		*p, _ = curve.Decode(b[:])
	}
	c.must(curve.Right(*p) && *p != curve.Zero())
}

func (c *coder) scalar(s *api.Scalar) {
	below := scalar.Norm(*s) == *s
	b := scalar.Bytes(*s)
	c.raw(b[:])
	if c.reads() {
		*s, below = scalar.Read(b)
	}
	c.must(below)
}
