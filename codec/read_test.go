package codec_test

import (
	"bytes"
	"math"
	"slices"
	"testing"

	"tollhouse/api"
	"tollhouse/codec"
)

// method is one that reads; it answers a number as it is, and bytes as a text.
type method struct {
	name string
	call func(r *codec.Reader) any
	zero any
}

func byteOf() method {
	return method{"Byte", func(r *codec.Reader) any { return uint64(r.Byte()) }, uint64(0)}
}

func wordOf() method {
	return method{"Word", func(r *codec.Reader) any { return uint64(r.Word()) }, uint64(0)}
}

func longOf() method {
	return method{"Long", func(r *codec.Reader) any { return r.Long() }, uint64(0)}
}

func varUpTo(most uint64) method {
	return method{"Var", func(r *codec.Reader) any { return r.Var(most) }, uint64(0)}
}

func rawOf(n int) method {
	return method{"Raw", func(r *codec.Reader) any { return string(r.Raw(n)) }, ""}
}

func textUpTo(most int) method {
	return method{"Text", func(r *codec.Reader) any { return string(r.Text(most)) }, ""}
}

// reading is a method, the bytes that it reads, and what it makes of them.
type reading struct {
	method
	b    []byte
	want any
}

// readings are right ones: of all methods, at all edges.
func readings() []reading {
	var l []reading
	for _, n := range edges {
		l = append(l,
			reading{byteOf(), big(n, 1), n & 0xff},
			reading{wordOf(), big(n, 4), n & math.MaxUint32},
			reading{longOf(), big(n, 8), n},
			reading{varUpTo(n), varOf(n), n},
			reading{varUpTo(top), varOf(n), n})
		if n < top {
			l = append(l, reading{varUpTo(n + 1), varOf(n), n})
		}
	}
	for _, n := range lengths {
		b := filled(n)
		l = append(l,
			reading{rawOf(n), b, string(b)},
			reading{textUpTo(n), textOf(b), string(b)},
			reading{textUpTo(n + 1), textOf(b), string(b)},
			reading{textUpTo(math.MaxInt), textOf(b), string(b)})
	}
	return l
}

// isAt holds what a reader tells of itself against what it should; what is left makes the only difference to End.
func isAt(t *testing.T, what string, r *codec.Reader, left int, e api.Errno) {
	t.Helper()
	end := e
	if e == api.OK && left > 0 {
		end = api.ErrCodecMore
	}
	for range 2 { // asking changes nothing
		if r.Left() != left || r.Err() != e || r.End() != end {
			t.Errorf("P11.2: %s: Left = %d, Err = %d, End = %d, want %d, %d, %d", what, r.Left(), r.Err(), r.End(), left, e, end)
			return
		}
	}
}

// fails reads from some bytes with a method, and holds it to fail as it should.
func fails(t *testing.T, m method, b []byte, e api.Errno) {
	t.Helper()
	r := codec.Read(b)
	if x := m.call(r); x != m.zero {
		t.Errorf("P11.2, R2: %s of %.40x: %v beside an error", m.name, b, x)
	}
	isAt(t, m.name, r, len(b), e)
	stays(t, m.name, r, len(b), e)
}

// stays holds a reader that has failed to do nothing any more.
func stays(t *testing.T, what string, r *codec.Reader, left int, e api.Errno) {
	t.Helper()
	for _, m := range []method{byteOf(), wordOf(), longOf(), varUpTo(0), varUpTo(top), rawOf(0), rawOf(1), rawOf(-1), rawOf(math.MaxInt), textUpTo(0), textUpTo(-1), textUpTo(math.MaxInt)} {
		if x := m.call(r); x != m.zero {
			t.Errorf("P11.2: %s behind a failure (%s): %v", m.name, what, x)
		}
		isAt(t, m.name+" behind a failure", r, left, e)
	}
	for _, other := range []api.Errno{api.OK, api.ErrArg, api.ErrCodecShort, api.ErrCodecMore, -1} {
		r.Fail(other)
		isAt(t, "Fail behind a failure", r, left, e)
	}
}

func TestReadNothing(t *testing.T) {
	for _, b := range [][]byte{nil, {}} {
		r := codec.Read(b)
		isAt(t, "no bytes", r, 0, api.OK)
		if len(r.Raw(0)) != 0 {
			t.Error("P11.2: Raw(0) of no bytes has some")
		}
		isAt(t, "no bytes, Raw(0)", r, 0, api.OK)
	}
}

// The lines of the chapter's examples that read.
func TestReadExamples(t *testing.T) {
	fails(t, varUpTo(1000), unhex("fd 00 fc"), api.ErrCodecForm)
	fails(t, varUpTo(4), unhex("05"), api.ErrCodecLong)
	fails(t, varUpTo(9), unhex("fd 01"), api.ErrCodecShort)

	r := codec.Read(unhex("02 61 62 63"))
	if b := r.Text(2); string(b) != "ab" || r.Left() != 1 || r.End() != api.ErrCodecMore {
		t.Errorf("P11.2: Text(2), Left, End of 02 61 62 63: %q, %d, %d", b, r.Left(), r.End())
	}
	if b := r.Byte(); b != 0x63 || r.End() != api.OK {
		t.Errorf("P11.2: then Byte, End: %x, %d", b, r.End())
	}

	r = codec.Read(unhex("02 61"))
	if b := r.Text(2); b != nil || r.Left() != 2 {
		t.Errorf("P11.2: Text(2), Left of 02 61: %q, %d", b, r.Left())
	}
	if b := r.Byte(); b != 0 || r.End() != api.ErrCodecShort {
		t.Errorf("P11.2: then Byte, End: %x, %d", b, r.End())
	}
}

// Each method on what it should read, alone, and with more behind it.
func TestReadRight(t *testing.T) {
	for _, c := range readings() {
		for _, more := range [][]byte{nil, {0}, {255}, filled(70000)} {
			r := codec.Read(slices.Concat(c.b, more))
			if x := c.call(r); x != c.want {
				t.Errorf("P11.2: %s of %.40x: %.40v, want %.40v", c.name, c.b, x, c.want)
			}
			isAt(t, c.name, r, len(more), api.OK)
			if b := r.Raw(len(more)); !bytes.Equal(b, more) {
				t.Errorf("P11.2: behind %s of %.40x: %.40x, want %.40x", c.name, c.b, b, more)
			}
			isAt(t, c.name+", and all", r, 0, api.OK)
		}
	}
}

// Each method on each shorter beginning of what it should read.
func TestReadShort(t *testing.T) {
	for _, c := range readings() {
		for n := range c.b {
			if n > 300 && n < len(c.b)-3 {
				continue // there are many, and they are all alike
			}
			fails(t, c.method, c.b[:n], api.ErrCodecShort)
		}
	}
}

// A method that fails behind others consumes nothing, and what they have read stays read.
func TestReadThenFail(t *testing.T) {
	for _, c := range readings() {
		if len(c.b) == 0 {
			continue
		}
		r := codec.Read(slices.Concat([]byte{1, 2, 3}, c.b[:len(c.b)-1]))
		if r.Byte() != 1 || string(r.Raw(2)) != "\x02\x03" {
			t.Fatal("P11.2: three bytes")
		}
		if x := c.call(r); x != c.zero {
			t.Errorf("P11.2: %s, of too few bytes: %.40v", c.name, x)
		}
		isAt(t, c.name, r, len(c.b)-1, api.ErrCodecShort)
		stays(t, c.name, r, len(c.b)-1, api.ErrCodecShort)
	}
}

// longer are the longer forms of a number: those that a Var may not have.
func longer(n uint64) [][]byte {
	l := [][]byte{append([]byte{255}, big(n, 8)...)}
	if n < 1<<32 {
		l = append(l, append([]byte{254}, big(n, 4)...))
	}
	if n < 1<<16 {
		l = append(l, append([]byte{253}, big(n, 2)...))
	}
	return slices.DeleteFunc(l, func(b []byte) bool { return bytes.Equal(b, varOf(n)) })
}

// Of the errors of a Var, the first one counts: what is short is not asked for its form, what has the wrong form not for its size.
func TestVarForms(t *testing.T) {
	many := 0
	for _, n := range edges {
		for _, b := range longer(n) {
			many++
			for _, most := range []uint64{0, n - 1, n, top} {
				fails(t, varUpTo(most), b, api.ErrCodecForm)
				fails(t, varUpTo(most), append(b, 1, 2), api.ErrCodecForm)
			}
			for _, most := range []int{math.MinInt, -1, 0, math.MaxInt} {
				fails(t, textUpTo(most), b, api.ErrCodecForm)
				fails(t, textUpTo(most), slices.Concat(b, filled(300)), api.ErrCodecForm)
			}
			for i := range b {
				for _, most := range []uint64{0, n, top} {
					fails(t, varUpTo(most), b[:i], api.ErrCodecShort)
				}
				for _, most := range []int{-1, 0, math.MaxInt} {
					fails(t, textUpTo(most), b[:i], api.ErrCodecShort)
				}
			}
		}
	}
	if many < 40 {
		t.Error("too few longer forms:", many)
	}
}

func TestVarMost(t *testing.T) {
	for _, n := range edges {
		b := varOf(n)
		for _, most := range append(slices.Clone(edges), n-1, n, n+1) {
			if n > most {
				fails(t, varUpTo(most), b, api.ErrCodecLong)
				fails(t, varUpTo(most), append(b, 7), api.ErrCodecLong)
				continue
			}
			r := codec.Read(b)
			if x := r.Var(most); x != n {
				t.Errorf("P11.2: Var(%d) of %x: %d", most, b, x)
			}
			isAt(t, "Var", r, 0, api.OK)
		}
		for i := range b { // short, though the number were too great
			fails(t, varUpTo(0), b[:i], api.ErrCodecShort)
		}
	}
}

func TestRawEdges(t *testing.T) {
	for _, many := range []int{0, 1, 5, 252, 253, 65536} {
		b := filled(many)
		for _, n := range []int{-1, -2, -many, -many - 1, -1 << 31, math.MinInt} {
			if n < 0 {
				fails(t, rawOf(n), b, api.ErrCodecLong)
			}
		}
		for _, n := range []int{many + 1, many + 2, 1 << 31, 1 << 32, math.MaxInt} {
			fails(t, rawOf(n), b, api.ErrCodecShort)
		}
		for _, n := range []int{0, many / 2, many} {
			r := codec.Read(b)
			if x := r.Raw(n); !bytes.Equal(x, b[:n]) {
				t.Errorf("P11.2: Raw(%d) of %d bytes: %.40x", n, many, x)
			}
			isAt(t, "Raw", r, many-n, api.OK)
		}
	}
}

func TestTextMost(t *testing.T) {
	for _, n := range lengths {
		b := textOf(filled(n))
		for _, most := range []int{-1, -n - 1, math.MinInt} {
			fails(t, textUpTo(most), b, api.ErrCodecLong)
			fails(t, textUpTo(most), varOf(uint64(n)), api.ErrCodecLong)
		}
		if n > 0 {
			fails(t, textUpTo(n-1), b, api.ErrCodecLong)
			fails(t, textUpTo(0), b, api.ErrCodecLong)
			fails(t, textUpTo(n-1), varOf(uint64(n)), api.ErrCodecLong) // nor are there enough bytes
			fails(t, textUpTo(n), b[:len(b)-1], api.ErrCodecShort)
			fails(t, textUpTo(n), varOf(uint64(n)), api.ErrCodecShort)
		}
	}
	for _, most := range []int{math.MinInt, -1, 0, 5, math.MaxInt} {
		fails(t, textUpTo(most), nil, api.ErrCodecShort)
		fails(t, textUpTo(most), []byte{253, 1}, api.ErrCodecShort)
		fails(t, textUpTo(most), []byte{255, 0, 0, 0, 0, 0, 0, 0}, api.ErrCodecShort)
	}
}

// A length that no bytes can have must not be taken for a negative one, nor for a small one.
func TestTextHuge(t *testing.T) {
	for _, n := range []uint64{1 << 31, 1 << 32, 1<<32 + 3, 1 << 62, 1<<63 - 9, 1<<63 - 1, 1 << 63, 1<<63 + 3, top - 9, top - 8, top - 1, top} {
		b := slices.Concat(varOf(n), filled(20))
		for _, most := range []int{-1, 0, 20, 1 << 31, math.MaxInt - 1, math.MaxInt} {
			want := api.ErrCodecShort
			if most < 0 || n > uint64(most) {
				want = api.ErrCodecLong
			}
			fails(t, textUpTo(most), b, want)
		}
	}
}

func TestFail(t *testing.T) {
	for _, b := range [][]byte{nil, {1}, filled(30)} {
		r := codec.Read(b)
		r.Fail(api.OK)
		isAt(t, "Fail with OK", r, len(b), api.OK)
		if len(b) > 0 {
			if x := r.Byte(); x != b[0] {
				t.Errorf("P11.2: Byte behind Fail with OK: %x", x)
			}
		}
		left := max(len(b)-1, 0)
		isAt(t, "Fail with OK, Byte", r, left, api.OK)
		r.Fail(api.ErrWireForm)
		isAt(t, "Fail with an error", r, left, api.ErrWireForm)
		r.Fail(api.ErrArg)
		isAt(t, "Fail a second time", r, left, api.ErrWireForm)
		r.Fail(api.OK)
		isAt(t, "Fail with OK behind a failure", r, left, api.ErrWireForm)
		stays(t, "Fail", r, left, api.ErrWireForm)
	}
	for _, e := range []api.Errno{api.ErrArg, api.ErrCodecMore, api.ErrCodecShort, 999, -1} {
		r := codec.Read(filled(9))
		r.Fail(e)
		stays(t, "Fail", r, 9, e)
	}
}

// End only asks: a reader with bytes left reads on.
func TestEnd(t *testing.T) {
	r := codec.Read([]byte{1, 2})
	for left := 2; left > 0; left-- {
		if r.End() != api.ErrCodecMore || r.Err() != api.OK {
			t.Errorf("P11.2: End = %d, Err = %d, with %d left", r.End(), r.Err(), left)
		}
		if b := r.Byte(); int(b) != 3-left {
			t.Errorf("P11.2: Byte behind End = %d", b)
		}
	}
	isAt(t, "all was read", r, 0, api.OK)
	fails(t, byteOf(), nil, api.ErrCodecShort)
}

func TestReadKeepsACopy(t *testing.T) {
	all := slices.Concat([]byte{7}, big(top-5, 8), textOf([]byte("abcdef")), []byte("xyz"))
	b, check := guarded(t, all)
	r := codec.Read(b)
	if r.Byte() != 7 {
		t.Error("P11.2: Byte")
	}
	spoil(b)
	if n := r.Long(); n != top-5 {
		t.Errorf("P11.2: Long of bytes that are written over: %x", n)
	}
	if s := r.Text(6); string(s) != "abcdef" {
		t.Errorf("P11.2: Text of bytes that are written over: %q", s)
	}
	if s := r.Raw(3); string(s) != "xyz" {
		t.Errorf("P11.2: Raw of bytes that are written over: %q", s)
	}
	spoil(b)
	check("reading")
}

// What was read is the caller's: what is written there, or behind its end, is seen nowhere else.
func TestReadAnswersAreNew(t *testing.T) {
	for _, n := range []int{0, 1, 3, 8, 32, 252, 300} {
		part := filled(n)
		r := codec.Read(slices.Concat(part, textOf(part), part, textOf(part)))
		first, second := r.Raw(n), r.Text(n)
		spoil(first)
		if !bytes.Equal(second, part) {
			t.Errorf("R5: what is written into a Raw of %d bytes is seen in a Text", n)
		}
		spoil(second)
		if third := r.Raw(n); !bytes.Equal(third, part) {
			t.Errorf("R5: what is written into a Text of %d bytes is seen in a Raw", n)
		}
		if fourth := r.Text(n); !bytes.Equal(fourth, part) {
			t.Errorf("R5: what is written into what was read is seen in a Text of %d bytes", n)
		}
		isAt(t, "answers that are written over", r, 0, api.OK)
	}
}

// Two readers of the same bytes know nothing of each other.
func TestReadersApart(t *testing.T) {
	b := []byte{1, 2, 3}
	one, two := codec.Read(b), codec.Read(b)
	one.Byte()
	one.Fail(api.ErrArg)
	if two.Left() != 3 || two.Byte() != 1 || two.Err() != api.OK {
		t.Error("R6: what one reader does is seen in another")
	}
}
