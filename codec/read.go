package codec

import (
	"bytes"

	"tollhouse/api"
)

// Reader goes through bytes, up to the first thing that is wrong with them.
type Reader struct {
	rest  []byte
	first api.Errno // what was wrong first
}

// Read begins at the front of a copy of some bytes.
func Read(b []byte) *Reader { return &Reader{rest: bytes.Clone(b)} }

// Byte reads one byte.
func (r *Reader) Byte() byte { return byte(r.number(fixed(r.rest, 1))) }

// Word reads four bytes.
func (r *Reader) Word() uint32 { return uint32(r.number(fixed(r.rest, 4))) }

// Long reads eight bytes.
func (r *Reader) Long() uint64 { return r.number(fixed(r.rest, 8)) }

// Var reads a number that is at most so great.
func (r *Reader) Var(most uint64) uint64 { return r.number(variable(r.rest, most)) }

// Raw reads so many bytes.
func (r *Reader) Raw(n int) []byte {
	e := api.OK
	if n < 0 {
		e = api.ErrCodecLong
	} else if n > len(r.rest) {
		e = api.ErrCodecShort
	}
	return r.piece(0, n, e)
}

// Text reads bytes that stand behind their number, which is at most so great.
func (r *Reader) Text(most int) []byte {
	n, size, e := length(r.rest, most)
	if e == api.OK && n > uint64(len(r.rest)-size) {
		e = api.ErrCodecShort
	}
	return r.piece(size, size+int(n), e)
}

// Fail says that something is wrong; only the first time counts.
func (r *Reader) Fail(e api.Errno) {
	if r.first == api.OK {
		r.first = e
	}
}

// Err tells what was wrong first.
func (r *Reader) Err() api.Errno { return r.first }

// Left tells how many bytes were not read.
func (r *Reader) Left() int { return len(r.rest) }

// End tells whether all was read, and nothing was wrong.
func (r *Reader) End() api.Errno {
	if r.first == api.OK && len(r.rest) > 0 {
		return api.ErrCodecMore
	}
	return r.first
}

// count reads how many things follow.
func (r *Reader) count(most int) int { return int(r.number(length(r.rest, most))) }

// number goes past the bytes of a number, unless they are wrong. What is found in front of a reader that has failed counts for nothing.
func (r *Reader) number(n uint64, size int, e api.Errno) uint64 {
	r.Fail(e)
	if r.first != api.OK {
		return 0
	}
	r.rest = r.rest[size:]
	return n
}

// piece tells the bytes between two places, and goes past them, unless something is wrong with them.
func (r *Reader) piece(from, to int, e api.Errno) []byte {
	r.Fail(e)
	if r.first != api.OK {
		return nil
	}
	b := bytes.Clone(r.rest[from:to])
	r.rest = r.rest[to:]
	return b
}

// fixed is the number of so many bytes in front of others; also, how many bytes it has, and what is wrong with it.
func fixed(b []byte, size int) (uint64, int, api.Errno) {
	if len(b) < size {
		return 0, 0, api.ErrCodecShort
	}
	n := uint64(0)
	for _, c := range b[:size] {
		n = n<<8 | uint64(c)
	}
	return n, size, api.OK
}

// variable is the number of the Var in front of other bytes, as fixed is.
func variable(b []byte, most uint64) (uint64, int, api.Errno) {
	n, size, e := fixed(b, 1)
	if n >= two {
		n, size, e = longer(b)
	}
	if e == api.OK && n > most {
		return 0, 0, api.ErrCodecLong
	}
	return n, size, e
}

// longer is the number of a Var whose first byte says how many follow. A number that can do with fewer is wrong, so that no two encodings are read as one number.
func longer(b []byte) (uint64, int, api.Errno) {
	size, least := 8, uint64(1<<32)
	switch b[0] {
	case two:
		size, least = 2, two
	case four:
		size, least = 4, 1<<16
	}
	n, _, e := fixed(b[1:], size)
	if e == api.OK && n < least {
		e = api.ErrCodecForm
	}
	if e != api.OK {
		return 0, 0, e
	}
	return n, 1 + size, api.OK
}

// length is the number of the Var in front of other bytes, where it tells how many of something there are. None is as small as a negative most, not even 0.
func length(b []byte, most int) (uint64, int, api.Errno) {
	n, size, e := variable(b, uint64(max(most, 0)))
	if e == api.OK && most < 0 {
		return 0, 0, api.ErrCodecLong
	}
	return n, size, e
}
