package wire_test

import (
	"bytes"
	"fmt"
	"math/rand/v2"
	"slices"
	"testing"

	"tollhouse/api"
)

func (k thing[T]) testSome(t *testing.T) {
	for seed := range uint64(300) {
		x := k.some(rand.New(rand.NewPCG(seed, 21)))
		k.writes(t, fmt.Sprint("seed ", seed), x)
	}
}

// TestSome: what is written is read again, and is written with the same bytes.
func TestSome(t *testing.T) { each(t, subject.testSome) }

// bent is an encoding with a little that is different.
func bent(g *rand.Rand, b []byte) []byte {
	b = slices.Clone(b)
	for range 1 + g.IntN(2) {
		at := g.IntN(len(b) + 1)
		c := []byte{0, 1, 2, 3, 4, 16, 253, 255}[g.IntN(8)]
		switch {
		case g.IntN(4) == 0:
			b = slices.Insert(b, at, c)
		case at < len(b) && g.IntN(4) == 0:
			b = slices.Delete(b, at, at+1)
		case at < len(b):
			b[at] = c
		}
	}
	return b
}

func (k thing[T]) testAny(t *testing.T) {
	read, refused := 0, 0
	for seed := range uint64(1500) {
		g := rand.New(rand.NewPCG(seed, 22))
		was := sheetOf(k.some(g), k.lay).bytes()
		if len(was) > 3000 {
			continue
		}
		b := bent(g, was)
		x, code := k.read(b)
		if code != api.OK {
			refused++
			k.unread(t, "bent", b)
			continue
		}
		read++
		if again, code := k.write(x); code != api.OK || !bytes.Equal(again, b) {
			t.Fatalf("P12.4: %s: seed %d: %s is read as %s, which is written %d, %s", k.name, seed, short(b), brief(x), code, short(again))
		}
	}
	if read < 100 || refused < 100 {
		t.Error("too few are read, or too few refused:", read, refused)
	}
}

// TestAny: encodings with a little that is different are refused, or are those of what is read from them.
func TestAny(t *testing.T) { each(t, subject.testAny) }

func (k thing[T]) testUnlike(t *testing.T) {
	type pair struct {
		b []byte
		x string
	}
	var l []pair
	add := func(x T) {
		if b, code := k.write(x); code == api.OK {
			l = append(l, pair{b, show(x, false)})
		}
	}
	for _, c := range k.changes() {
		x := k.full(1)
		c.do(&x)
		add(x)
	}
	for seed := range uint64(200) {
		add(k.some(rand.New(rand.NewPCG(seed, 23))))
	}
	for n := range 40 {
		add(k.full(n))
	}
	slices.SortFunc(l, func(p, q pair) int { return bytes.Compare(p.b, q.b) })
	unlike := 0
	for i := 1; i < len(l); i++ {
		p, q := l[i-1], l[i]
		if p.x == q.x {
			continue
		}
		unlike++
		if bytes.HasPrefix(q.b, p.b) {
			t.Errorf("P12.4: %s: unlike things have the encodings %s and %s", k.name, short(p.b), short(q.b))
		}
	}
	if unlike < 50 {
		t.Error("too few are unlike:", unlike)
	}
}

// TestUnlike: unlike things have unlike encodings, and none begins with that of another.
func TestUnlike(t *testing.T) { each(t, subject.testUnlike) }

func (k thing[T]) testMemory(t *testing.T) {
	x := k.full(1)
	was := show(x, true)
	one, _ := k.write(x)
	two, _ := k.write(x)
	if show(x, true) != was {
		t.Errorf("P12.5, R5: %s: what is written is changed, or what lies behind it", k.name)
	}
	if !apart(x, one, two) {
		t.Errorf("R5: %s: what was written shares memory", k.name)
	}
	b := append(slices.Clone(one), 0xaa, 0xbb, 0xcc)
	room := slices.Clone(b)
	b = b[:len(one)]
	y, code := k.read(b)
	z, _ := k.read(b)
	if !bytes.Equal(b[:len(room)], room) || code != api.OK {
		t.Errorf("P12.5, R5: %s: what is read is changed, or what lies behind it: %d", k.name, code)
	}
	if !apart(b, y, z) {
		t.Errorf("R5: %s: what was read shares memory", k.name)
	}
	for i := range b {
		b[i] ^= 0xff
	}
	if !same(x, y) || !same(x, z) {
		t.Errorf("R5: %s: what was read is changed afterwards", k.name)
	}
}

// TestMemory: what is handed in stays as it is, and what is handed out is new.
func TestMemory(t *testing.T) { each(t, subject.testMemory) }
