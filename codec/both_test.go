package codec_test

import (
	"bytes"
	"math"
	"math/rand/v2"
	"slices"
	"strings"
	"testing"

	"tollhouse/api"
	"tollhouse/codec"
)

// The kinds of what can be written. Raws of unlike lengths count as unlike kinds, since whoever reads one has to know its length.
const (
	aByte = iota
	aWord
	aLong
	aVar
	aRaw
	aText
	aList  // of texts, read by List
	aTable // of rows, read by List
	anItem // a list of numbers, read by Items
	kinds
)

// thing is one call: its kind, and its argument.
type thing struct {
	kind int
	n    uint64
	b    string
	l    []string
	rows []row
	vars []uint64
}

func (x thing) same(y thing) bool {
	return x.kind == y.kind && x.n == y.n && x.b == y.b && slices.Equal(x.l, y.l) && slices.EqualFunc(x.rows, y.rows, sameRow) && slices.Equal(x.vars, y.vars)
}

// write makes the call.
func (x thing) write(w *codec.Writer) {
	switch x.kind {
	case aByte:
		w.Byte(byte(x.n))
	case aWord:
		w.Word(uint32(x.n))
	case aLong:
		w.Long(x.n)
	case aVar:
		w.Var(x.n)
	case aRaw:
		w.Raw([]byte(x.b))
	case aText:
		w.Text([]byte(x.b))
	case aList:
		codec.Put(w, x.l, func(w *codec.Writer, s string) { w.Text([]byte(s)) })
	case aTable:
		codec.Put(w, x.rows, putRow)
	case anItem:
		codec.Put(w, x.vars, (*codec.Writer).Var)
	}
}

// read makes the call that reads such a thing, of which the length is all that it looks at.
func (x thing) read(r *codec.Reader) thing {
	y := thing{kind: x.kind}
	switch x.kind {
	case aByte:
		y.n = uint64(r.Byte())
	case aWord:
		y.n = uint64(r.Word())
	case aLong:
		y.n = r.Long()
	case aVar:
		y.n = r.Var(top)
	case aRaw:
		y.b = string(r.Raw(len(x.b)))
	case aText:
		y.b = string(r.Text(math.MaxInt))
	case aList:
		y.l = codec.List(r, math.MaxInt, func(r *codec.Reader) string { return string(r.Text(math.MaxInt)) })
	case aTable:
		y.rows = codec.List(r, math.MaxInt, getRow)
	case anItem:
		for _, n := range codec.Items(r, math.MaxInt, func(r *codec.Reader) uint64 { return r.Var(top) }) {
			y.vars = append(y.vars, n)
		}
	}
	return y
}

// written are the bytes of a sequence.
func written(l []thing) []byte {
	w := codec.New()
	for _, x := range l {
		x.write(w)
	}
	return w.Bytes()
}

// number is one of the edges, or one near an edge.
func number(g *rand.Rand) uint64 { return edges[g.IntN(len(edges))] + uint64(g.IntN(3)) - 1 }

// word is a short text, seldom a longer one, of bytes that look like the first ones of a Var.
func word(g *rand.Rand) string {
	many := g.IntN(4)
	if g.IntN(12) == 0 {
		many = 250 + g.IntN(6)
	}
	b := make([]byte, many)
	for i := range b {
		b[i] = []byte{0, 1, 2, 252, 253, 254, 255}[g.IntN(7)]
	}
	return string(b)
}

// some is a thing of a kind.
func some(g *rand.Rand, kind int) thing {
	x := thing{kind: kind}
	switch kind {
	case aByte:
		x.n = number(g) & 0xff
	case aWord:
		x.n = number(g) & math.MaxUint32
	case aLong, aVar:
		x.n = number(g)
	case aRaw, aText:
		x.b = word(g)
	case aList:
		for range g.IntN(4) {
			x.l = append(x.l, word(g))
		}
	case aTable:
		x.rows = someRows(g.IntN(4))
	case anItem:
		for range g.IntN(4) {
			x.vars = append(x.vars, number(g))
		}
	}
	return x
}

// sequence are some things; the same ones whenever the tests run.
func sequence(seed uint64) []thing {
	g := rand.New(rand.NewPCG(seed, 11))
	var l []thing
	for range g.IntN(9) {
		l = append(l, some(g, g.IntN(kinds)))
	}
	return l
}

// readAll reads a sequence, and holds each call to leave no more than there was, and behind a failure just as much.
func readAll(t *testing.T, r *codec.Reader, l []thing) []thing {
	t.Helper()
	var got []thing
	for _, x := range l {
		left, failed := r.Left(), r.Err()
		y := x.read(r)
		if r.Left() > left || failed != api.OK && (r.Left() != left || r.Err() != failed || !y.same(thing{kind: x.kind})) {
			t.Errorf("P11.5: kind %d: Left = %d after %d, Err = %d after %d: %.80v", x.kind, r.Left(), left, r.Err(), failed, y)
		}
		got = append(got, y)
	}
	return got
}

func TestWhatWasWrittenIsRead(t *testing.T) {
	seen := [kinds]int{}
	for seed := range uint64(1500) {
		l := sequence(seed)
		b := written(l)
		r := codec.Read(b)
		if got := readAll(t, r, l); !slices.EqualFunc(got, l, thing.same) {
			t.Fatalf("P11.4: sequence %d: read %.200v, want %.200v", seed, got, l)
		}
		isAt(t, "P11.4: all was read", r, 0, api.OK)
		for n := range b {
			if seed > 200 && n%7 != int(seed%7) {
				continue
			}
			r := codec.Read(b[:n])
			readAll(t, r, l)
			if r.Err() != api.ErrCodecShort || r.End() != api.ErrCodecShort {
				t.Fatalf("P11.4: sequence %d, %d bytes of %d: Err = %d, End = %d", seed, n, len(b), r.Err(), r.End())
			}
		}
		for _, x := range l {
			seen[x.kind]++
		}
	}
	if slices.Min(seen[:]) < 100 {
		t.Error("a kind is too seldom written:", seen)
	}
}

// TestReadingAnything: whatever stands there, and whatever is read from it, a reader goes forward only; and what it has read makes the same bytes again, so that no two texts of bytes are read as one.
func TestReadingAnything(t *testing.T) {
	fine := 0
	for seed := range uint64(6000) {
		g := rand.New(rand.NewPCG(seed, 12))
		b := []byte(word(g) + word(g) + word(g) + word(g) + word(g))
		l := sequence(seed)
		r := codec.Read(b)
		got := readAll(t, r, l)
		if r.Err() != api.OK {
			continue
		}
		fine++
		if again := written(got); !bytes.Equal(again, b[:len(b)-r.Left()]) {
			t.Fatalf("P11.5: %x is read as %.200v, which is written %x", b, got, again)
		}
	}
	if fine < 500 {
		t.Error("too few readings do not fail:", fine)
	}
}

// values are some of a kind that could be taken for each other, alone or beside others.
func values(kind int) []thing {
	var l []thing
	texts := []string{"", "\x00", "\x00\x00", "\x01", "\x01\x00", "\x02\x00", "\x01\x01", "\x00\x01", "\xfd", "\xfd\x00", "\xfd\x00\xfd", "a", "ab", strings.Repeat("\x00", 252), strings.Repeat("\x00", 253), strings.Repeat("\x00", 256)}
	switch kind {
	case aByte, aWord, aLong, aVar, anItem:
		for _, n := range edges {
			switch kind {
			case aByte:
				n &= 0xff
			case aWord:
				n &= math.MaxUint32
			case anItem:
				l = append(l, thing{kind: kind, vars: []uint64{n}}, thing{kind: kind, vars: []uint64{n, n}}, thing{kind: kind, vars: []uint64{0, n}})
				continue
			}
			l = append(l, thing{kind: kind, n: n})
		}
	case aRaw:
		l = append(l, thing{kind: kind, b: "\x00\x00"}, thing{kind: kind, b: "\x00\x01"}, thing{kind: kind, b: "\x01\x00"}, thing{kind: kind, b: "\xfd\x00"})
	case aText:
		for _, s := range texts {
			l = append(l, thing{kind: kind, b: s})
		}
	case aList:
		for _, s := range texts {
			l = append(l, thing{kind: kind, l: []string{s}}, thing{kind: kind, l: []string{s, ""}}, thing{kind: kind, l: []string{"", s}})
		}
		l = append(l, thing{kind: kind})
	case aTable:
		for many := range 4 {
			l = append(l, thing{kind: kind, rows: someRows(many)})
		}
	}
	return l
}

// TestUnlikeValues: of two kinds, each value of the one beside each of the other has bytes of its own.
func TestUnlikeValues(t *testing.T) {
	for one := range kinds {
		for two := range kinds {
			seen := map[string][2]thing{}
			for _, x := range values(one) {
				for _, y := range values(two) {
					b := string(written([]thing{x, y}))
					if was, ok := seen[b]; ok && !(was[0].same(x) && was[1].same(y)) {
						t.Fatalf("P11.5: %.80v and %.80v have the same bytes: %.80x", was, [2]thing{x, y}, b)
					}
					seen[b] = [2]thing{x, y}
				}
			}
		}
	}
}

// One value of a sequence is changed, to another of its kind.
func TestUnlikeSequences(t *testing.T) {
	changed := 0
	for seed := range uint64(2000) {
		l := sequence(seed)
		b := written(l)
		g := rand.New(rand.NewPCG(seed, 13))
		for i, x := range l {
			y := some(g, x.kind)
			if x.kind == aRaw && len(y.b) != len(x.b) || y.same(x) {
				continue
			}
			changed++
			other := slices.Clone(l)
			other[i] = y
			if bytes.Equal(written(other), b) {
				t.Fatalf("P11.5: %.200v and %.200v have the same bytes", l, other)
			}
		}
	}
	if changed < 2000 {
		t.Error("too few changes:", changed)
	}
}
