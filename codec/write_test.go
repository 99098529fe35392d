package codec_test

import (
	"bytes"
	"encoding/binary"
	"encoding/hex"
	"math"
	"slices"
	"strings"
	"testing"

	"tollhouse/codec"
)

const top = math.MaxUint64

// edges are the numbers about which a Var, a word or a byte changes its shape.
var edges = []uint64{
	0, 1, 127, 128, 251, 252, 253, 254, 255, 256, 257, 1<<15 - 1, 1 << 15, 1<<16 - 2, 1<<16 - 1, 1 << 16, 1<<16 + 1, 1<<24 - 1, 1 << 24,
	1<<31 - 1, 1 << 31, 1<<32 - 2, 1<<32 - 1, 1 << 32, 1<<32 + 1, 1<<40 + 5, 1<<53 + 1, 1<<63 - 1, 1 << 63, 0x0102030405060708, top - 1, top,
}

// lengths are those about which the Var of a Text changes its shape.
var lengths = []int{0, 1, 2, 31, 32, 251, 252, 253, 254, 255, 256, 65534, 65535, 65536, 65537}

// filled gives bytes that are unlike their neighbours, so that none can be swapped, lost or doubled unseen.
func filled(n int) []byte {
	b := make([]byte, n)
	for i := range b {
		b[i] = byte(i*7 + i/251 + 1)
	}
	return b
}

// unhex reads bytes as the chapter writes them.
func unhex(s string) []byte {
	b, err := hex.DecodeString(strings.ReplaceAll(s, " ", ""))
	if err != nil {
		panic(err)
	}
	return b
}

// guarded gives a part of a slice with room behind it, and a check that nobody has touched any of it.
func guarded(t *testing.T, b []byte) (part []byte, check func(what string)) {
	room := slices.Concat([]byte{0xaa, 0xbb}, b, bytes.Repeat([]byte{0xcc}, 200))
	was := bytes.Clone(room)
	return room[2 : 2+len(b)], func(what string) {
		t.Helper()
		if !bytes.Equal(room, was) {
			t.Errorf("R5: %s has changed its argument, or what lies behind it", what)
		}
	}
}

// spoil writes over a slice, and over all the room behind it.
func spoil(b []byte) {
	b = b[:cap(b)]
	for i := range b {
		b[i] ^= 0xff
	}
}

// big is a number in so many bytes.
func big(n uint64, size int) []byte {
	return binary.BigEndian.AppendUint64(nil, n)[8-size:]
}

// varOf is the Var of a number, told by the tests' own words.
func varOf(n uint64) []byte {
	switch size := len(bytes.TrimLeft(big(n, 8), "\x00")); {
	case n < 253:
		return []byte{byte(n)}
	case size <= 2:
		return append([]byte{253}, big(n, 2)...)
	case size <= 4:
		return append([]byte{254}, big(n, 4)...)
	}
	return append([]byte{255}, big(n, 8)...)
}

// textOf is the Text of some bytes.
func textOf(b []byte) []byte { return slices.Concat(varOf(uint64(len(b))), b) }

// isWritten holds a writer against bytes.
func isWritten(t *testing.T, what string, w *codec.Writer, want []byte) {
	t.Helper()
	if b := w.Bytes(); !bytes.Equal(b, want) {
		t.Errorf("P11.1: %s: Bytes = %.80x (%d bytes), want %.80x (%d bytes)", what, b, len(b), want, len(want))
	}
	if w.Len() != len(want) {
		t.Errorf("P11.1: %s: Len = %d, want %d", what, w.Len(), len(want))
	}
}

func TestNewHasNothing(t *testing.T) {
	w := codec.New()
	isWritten(t, "nothing", w, nil)
	w.Raw(nil)
	w.Raw([]byte{})
	isWritten(t, "Raw of no bytes", w, nil)
	w.Byte(7)
	isWritten(t, "one thing", w, []byte{7})
	isWritten(t, "another writer", codec.New(), nil)
}

// The lines of the chapter's examples that write.
func TestWriteExamples(t *testing.T) {
	for _, c := range []struct {
		what string
		do   func(w *codec.Writer)
		want string
	}{
		{"Var of 0", func(w *codec.Writer) { w.Var(0) }, "00"},
		{"Var of 252", func(w *codec.Writer) { w.Var(252) }, "fc"},
		{"Var of 253", func(w *codec.Writer) { w.Var(253) }, "fd 00 fd"},
		{"Var of 65535", func(w *codec.Writer) { w.Var(65535) }, "fd ff ff"},
		{"Var of 65536", func(w *codec.Writer) { w.Var(65536) }, "fe 00 01 00 00"},
		{"Var of 2^32", func(w *codec.Writer) { w.Var(1 << 32) }, "ff 00 00 00 01 00 00 00 00"},
		{"Text of ab", func(w *codec.Writer) { w.Text([]byte("ab")) }, "02 61 62"},
		{"Text of no bytes", func(w *codec.Writer) { w.Text([]byte{}) }, "00"},
		{"Word(258)", func(w *codec.Writer) { w.Word(258) }, "00 00 01 02"},
	} {
		w := codec.New()
		c.do(w)
		isWritten(t, c.what, w, unhex(c.want))
	}
}

// The lines of the chapter's table of encodings, with the bytes written out.
func TestWriteTable(t *testing.T) {
	for _, c := range []struct {
		what string
		do   func(w *codec.Writer)
		want string
	}{
		{"Byte of 0", func(w *codec.Writer) { w.Byte(0) }, "00"},
		{"Byte of 255", func(w *codec.Writer) { w.Byte(255) }, "ff"},
		{"Word of 0", func(w *codec.Writer) { w.Word(0) }, "00 00 00 00"},
		{"Word of 1", func(w *codec.Writer) { w.Word(1) }, "00 00 00 01"},
		{"Word of 01020304", func(w *codec.Writer) { w.Word(0x01020304) }, "01 02 03 04"},
		{"Word of 2^32 - 1", func(w *codec.Writer) { w.Word(math.MaxUint32) }, "ff ff ff ff"},
		{"Long of 0", func(w *codec.Writer) { w.Long(0) }, "00 00 00 00 00 00 00 00"},
		{"Long of 1", func(w *codec.Writer) { w.Long(1) }, "00 00 00 00 00 00 00 01"},
		{"Long of 0102030405060708", func(w *codec.Writer) { w.Long(0x0102030405060708) }, "01 02 03 04 05 06 07 08"},
		{"Long of 2^64 - 1", func(w *codec.Writer) { w.Long(top) }, "ff ff ff ff ff ff ff ff"},
		{"Var of 254", func(w *codec.Writer) { w.Var(254) }, "fd 00 fe"},
		{"Var of 255", func(w *codec.Writer) { w.Var(255) }, "fd 00 ff"},
		{"Var of 256", func(w *codec.Writer) { w.Var(256) }, "fd 01 00"},
		{"Var of 01020304", func(w *codec.Writer) { w.Var(0x01020304) }, "fe 01 02 03 04"},
		{"Var of 2^32 - 1", func(w *codec.Writer) { w.Var(math.MaxUint32) }, "fe ff ff ff ff"},
		{"Var of 0102030405060708", func(w *codec.Writer) { w.Var(0x0102030405060708) }, "ff 01 02 03 04 05 06 07 08"},
		{"Var of 2^64 - 1", func(w *codec.Writer) { w.Var(top) }, "ff ff ff ff ff ff ff ff ff"},
		{"Raw of ab", func(w *codec.Writer) { w.Raw([]byte("ab")) }, "61 62"},
		{"Raw of nil", func(w *codec.Writer) { w.Raw(nil) }, ""},
		{"Raw of no bytes", func(w *codec.Writer) { w.Raw([]byte{}) }, ""},
		{"Text of nil", func(w *codec.Writer) { w.Text(nil) }, "00"},
		{"Text of one byte", func(w *codec.Writer) { w.Text([]byte{0}) }, "01 00"},
	} {
		w := codec.New()
		c.do(w)
		isWritten(t, c.what, w, unhex(c.want))
	}
}

func TestWriteNumbers(t *testing.T) {
	for _, n := range edges {
		w := codec.New()
		w.Byte(byte(n))
		isWritten(t, "Byte", w, big(n, 1))
		w = codec.New()
		w.Word(uint32(n))
		isWritten(t, "Word", w, big(n, 4))
		w = codec.New()
		w.Long(n)
		isWritten(t, "Long", w, big(n, 8))
		w = codec.New()
		w.Var(n)
		isWritten(t, "Var", w, varOf(n))
	}
	for n := range 256 {
		w := codec.New()
		w.Byte(byte(n))
		isWritten(t, "Byte", w, []byte{byte(n)})
	}
	for n := range uint64(1 << 17) {
		w := codec.New()
		w.Var(n)
		if b := w.Bytes(); !bytes.Equal(b, varOf(n)) {
			t.Fatalf("P11.1: Var of %d: %x", n, b)
		}
	}
}

func TestWriteBytes(t *testing.T) {
	for _, n := range lengths {
		b := filled(n)
		w := codec.New()
		w.Raw(b)
		isWritten(t, "Raw", w, b)
		w = codec.New()
		w.Text(b)
		isWritten(t, "Text", w, textOf(b))
	}
}

// Each thing is written behind what was written before, whatever was asked meanwhile.
func TestWriteMany(t *testing.T) {
	w := codec.New()
	var want []byte
	for i, n := range edges {
		b := filled(lengths[i%10])
		w.Byte(byte(n))
		w.Word(uint32(n))
		w.Long(n)
		w.Var(n)
		w.Raw(b)
		w.Text(b)
		want = slices.Concat(want, big(n, 1), big(n, 4), big(n, 8), varOf(n), b, textOf(b))
		isWritten(t, "many things", w, want)
	}
	isWritten(t, "the same once more", w, want)
}

// What one writer has got is not seen in another.
func TestWritersApart(t *testing.T) {
	a, b := codec.New(), codec.New()
	a.Text([]byte("first"))
	b.Word(5)
	a.Byte(1)
	b.Byte(2)
	isWritten(t, "the first of two", a, unhex("05 66 69 72 73 74 01"))
	isWritten(t, "the second of two", b, unhex("00 00 00 05 02"))
}

func TestWriteLeavesItsArguments(t *testing.T) {
	for _, n := range lengths {
		b := filled(n)
		raw, check := guarded(t, b)
		w := codec.New()
		w.Raw(raw)
		w.Byte(9)
		w.Long(top)
		check("Raw")
		spoil(raw)
		isWritten(t, "Raw, of bytes that are written over", w, slices.Concat(b, []byte{9}, big(top, 8)))
		text, check := guarded(t, b)
		w = codec.New()
		w.Text(text)
		w.Byte(9)
		w.Long(top)
		check("Text")
		spoil(text)
		isWritten(t, "Text, of bytes that are written over", w, slices.Concat(textOf(b), []byte{9}, big(top, 8)))
	}
}

// What Bytes returned is the caller's: neither side sees what the other one writes, not even behind its end.
func TestBytesAreNew(t *testing.T) {
	for _, n := range lengths {
		b := filled(n)
		w := codec.New()
		w.Raw(b)
		first, second := w.Bytes(), w.Bytes()
		spoil(first)
		if !bytes.Equal(second, b) {
			t.Errorf("R5: what Bytes returned once changes what it returned before, of %d bytes", n)
		}
		isWritten(t, "bytes that are written over", w, b)
		first = w.Bytes()
		room := bytes.Clone(first[:cap(first)])
		w.Raw(filled(40))
		w.Long(top)
		if !bytes.Equal(first[:cap(first)], room) {
			t.Errorf("R5: what is written later changes what Bytes returned, of %d bytes", n)
		}
		more := w.Bytes()
		spoil(first)
		isWritten(t, "bytes that are written over later", w, more)
		if want := slices.Concat(b, filled(40), big(top, 8)); !bytes.Equal(more, want) {
			t.Errorf("P11.1: Bytes after more was written: %.80x", more)
		}
	}
	w := codec.New()
	w.Raw([]byte("abc"))
	w.Raw(w.Bytes())
	w.Text(w.Bytes()[1:])
	isWritten(t, "what was written, once more", w, []byte("abcabc\x05bcabc"))
}
