package sha_test

import (
	"bytes"
	"crypto/hmac"
	"crypto/sha256"
	"encoding/hex"
	"math/big"
	"slices"
	"strings"
	"testing"

	"tollhouse/api"
	"tollhouse/sha"
)

// edges are the lengths about which the padding changes its shape.
var edges = []int{0, 1, 54, 55, 56, 57, 62, 63, 64, 65, 118, 119, 120, 121, 127, 128, 129, 191, 192}

// filled gives bytes that are unlike their neighbours, so that none can be swapped, lost or doubled unseen.
func filled(n int) []byte {
	b := make([]byte, n)
	for i := range b {
		b[i] = byte(i*7 + i/251 + 1)
	}
	return b
}

// fromHex reads a digest.
func fromHex(t *testing.T, s string) api.Digest {
	t.Helper()
	b, err := hex.DecodeString(s)
	if err != nil || len(b) != 32 {
		t.Fatalf("not a digest: %q", s)
	}
	return api.Digest(b)
}

// written is a hash to which these were written, one after the other.
func written(pieces ...[]byte) *sha.Hash {
	h := sha.New()
	for _, p := range pieces {
		h.Write(p)
	}
	return h
}

// guarded gives a part of a slice with room behind it, enough to pad a block in place, and a check that nobody has touched any of it.
func guarded(t *testing.T, b []byte) (part []byte, check func(what string)) {
	room := slices.Concat([]byte{0xaa, 0xbb}, b, bytes.Repeat([]byte{0xcc}, 200))
	was := bytes.Clone(room)
	return room[2 : 2+len(b)], func(what string) {
		t.Helper()
		if !bytes.Equal(room, was) {
			t.Errorf("R5: %s has changed its argument, or what lies behind it", what)
		}
	}
}

func TestOfKnownDigests(t *testing.T) {
	for _, c := range []struct{ text, want string }{
		{"", "e3b0c44298fc1c149afbf4c8996fb92427ae41e4649b934ca495991b7852b855"},
		{"abc", "ba7816bf8f01cfea414140de5dae2223b00361a396177a9cb410ff61f20015ad"},
		{"abcdbcdecdefdefgefghfghighijhijkijkljklmklmnlmnomnopnopq", "248d6a61d20638b8e5c026930c3e6039a33ce45964ff2167f6ecedd419db06c1"},
		{strings.Repeat("a", 1000000), "cdc76e5c9914fb9281a1c7e284d73e67f1809a48a497200e046d39ccc7112cd0"},
	} {
		if got := sha.Of([]byte(c.text)); got != fromHex(t, c.want) {
			t.Errorf("P1.1: Of of %d bytes: %x", len(c.text), got)
		}
	}
	if sha.Of(nil) != sha.Of([]byte{}) {
		t.Error("P1.1, R4: nil and no bytes are not the same")
	}
}

func TestOfEveryLength(t *testing.T) {
	all := filled(600)
	for n := range all {
		if got := sha.Of(all[:n]); got != api.Digest(sha256.Sum256(all[:n])) {
			t.Errorf("P1.1: Of of %d bytes: %x", n, got)
		}
	}
	for _, n := range edges {
		for _, fill := range []byte{0, 0x80, 0xff} {
			b := bytes.Repeat([]byte{fill}, n)
			if got := sha.Of(b); got != api.Digest(sha256.Sum256(b)) {
				t.Errorf("P1.1: Of of %d bytes %x: %x", n, fill, got)
			}
		}
	}
}

// The padding tells the length in bits: beyond 2^16 bits, and beyond 2^24, more of its bytes are in use.
func TestOfLongInputs(t *testing.T) {
	for _, n := range []int{31, 32, 8191, 8192, 8193, 1<<21 - 1, 1 << 21, 1<<21 + 77} {
		b := filled(n)
		if got := sha.Of(b); got != api.Digest(sha256.Sum256(b)) {
			t.Errorf("P1.1: Of of %d bytes: %x", n, got)
		}
	}
}

func TestOfLeavesItsArgument(t *testing.T) {
	for _, n := range edges {
		b, check := guarded(t, filled(n))
		first := sha.Of(b)
		check("Of")
		if n > 0 {
			b[n-1]++
			if sha.Of(b) == first {
				t.Errorf("P1.1: the last of %d bytes does not count", n)
			}
			b[n-1]--
		}
		if sha.Of(b) != first {
			t.Errorf("R6: Of of %d bytes is not always the same", n)
		}
	}
}

func TestNewHash(t *testing.T) {
	h := sha.New()
	if h.Len() != 0 || h.Sum() != sha.Of(nil) {
		t.Error("P1.2: a new hash is not one of no bytes")
	}
	h.Write(nil)
	h.Write([]byte{})
	if h.Len() != 0 || h.Sum() != sha.Of(nil) {
		t.Error("P1.2: no bytes were written, yet something changed")
	}
	h.Write([]byte("abc"))
	if sha.New().Len() != 0 || sha.New().Sum() != sha.Of(nil) {
		t.Error("P1.2: what one hash has taken is seen in a new one")
	}
}

func TestSumThenMore(t *testing.T) {
	all := filled(400)
	for _, first := range edges {
		for _, more := range edges {
			h := written(all[:first])
			if h.Sum() != sha.Of(all[:first]) || h.Sum() != sha.Of(all[:first]) || h.Len() != first {
				t.Fatalf("P1.2: Sum, and Sum once more, of %d bytes", first)
			}
			h.Write(all[first : first+more])
			if h.Sum() != sha.Of(all[:first+more]) || h.Len() != first+more {
				t.Errorf("P1.2: %d bytes, Sum, then %d more", first, more)
			}
		}
	}
}

func TestSumAfterEveryByte(t *testing.T) {
	all := filled(300)
	h := sha.New()
	for n := range all {
		if h.Len() != n || h.Sum() != api.Digest(sha256.Sum256(all[:n])) {
			t.Fatalf("P1.2: byte by byte, at %d: Len %d", n, h.Len())
		}
		h.Write(all[n : n+1])
	}
}

func TestWriteKeepsNothing(t *testing.T) {
	for _, n := range edges {
		b, check := guarded(t, filled(n))
		h := sha.New()
		h.Write(b)
		check("Write")
		want := sha.Of(b)
		h.Sum()
		check("Sum")
		for i := range b {
			b[i] ^= 0xff
		}
		if h.Sum() != want || h.Len() != n {
			t.Errorf("R5: Write of %d bytes has kept its argument", n)
		}
	}
}

func TestClone(t *testing.T) {
	all := filled(500)
	for _, first := range edges {
		for _, more := range edges[1:] {
			h := written(all[:first])
			k := h.Clone()
			if k.Len() != first || k.Sum() != sha.Of(all[:first]) {
				t.Fatalf("P1.2: a clone of %d bytes", first)
			}
			k.Write(all[100 : 100+more])
			if h.Len() != first || h.Sum() != sha.Of(all[:first]) {
				t.Errorf("R7: %d bytes: %d more, written to the clone, are seen in the original", first, more)
			}
			h.Write(all[200 : 200+more])
			if k.Len() != first+more || k.Sum() != sha.Of(slices.Concat(all[:first], all[100:100+more])) {
				t.Errorf("R7: %d bytes: %d more, written to the original, are seen in the clone", first, more)
			}
			if h.Len() != first+more || h.Sum() != sha.Of(slices.Concat(all[:first], all[200:200+more])) {
				t.Errorf("P1.2: %d bytes and %d more, written to the original after the clone", first, more)
			}
		}
	}
}

func TestCloneOfClone(t *testing.T) {
	h := written([]byte("a"))
	k := h.Clone()
	l := k.Clone()
	h.Write([]byte("1"))
	k.Write([]byte("22"))
	l.Write([]byte("333"))
	if h.Sum() != sha.Of([]byte("a1")) || k.Sum() != sha.Of([]byte("a22")) || l.Sum() != sha.Of([]byte("a333")) {
		t.Error("R7: clones of clones are not apart")
	}
}

func TestMacKnownDigests(t *testing.T) {
	for _, c := range []struct{ key, text, want string }{
		{strings.Repeat("\x0b", 20), "Hi There", "b0344c61d8db38535ca8afceaf0bf12b881dc200c9833da726e9376c2e32cff7"},
		{"Jefe", "what do ya want for nothing?", "5bdcc146bf60754e6a042426089575c75a003f089d2739839dec58b964ec3843"},
		{strings.Repeat("\xaa", 131), "Test Using Larger Than Block-Size Key - Hash Key First", "60e431591ee0b67f0d8a26aacbf5b77f8e0bc6213728c5140546040f0ee37f54"},
	} {
		if got := sha.Mac([]byte(c.key), []byte(c.text)); got != fromHex(t, c.want) {
			t.Errorf("P1.3: key of %d bytes: %x", len(c.key), got)
		}
	}
}

func TestMacEveryLength(t *testing.T) {
	texts := filled(300)
	for n := range 140 {
		key := filled(n + 3)[3:]
		for _, m := range edges {
			want := hmac.New(sha256.New, key)
			want.Write(texts[:m])
			if got := sha.Mac(key, texts[:m]); got != api.Digest(want.Sum(nil)) {
				t.Errorf("P1.3: key of %d bytes, text of %d: %x", n, m, got)
			}
		}
	}
}

// A key of 64 bytes is itself; one of 65 is its digest; a shorter one has zeros behind it.
func TestMacKeyEdges(t *testing.T) {
	text := []byte("text")
	full, long := filled(64), filled(65)
	d, e := sha.Of(full), sha.Of(long)
	if sha.Mac(full, text) == sha.Mac(d[:], text) {
		t.Error("P1.3: a key of 64 bytes was taken for its digest")
	}
	if sha.Mac(long, text) != sha.Mac(e[:], text) {
		t.Error("P1.3: a key of 65 bytes was not taken for its digest")
	}
	if sha.Mac([]byte("k"), text) != sha.Mac(append([]byte("k"), make([]byte, 63)...), text) {
		t.Error("P1.3: a short key has no zeros behind it")
	}
	if sha.Mac(nil, nil) != sha.Mac([]byte{}, []byte{}) || sha.Mac(nil, nil) != sha.Mac(make([]byte, 64), nil) {
		t.Error("P1.3, R4: no key, no text")
	}
	if sha.Mac([]byte("a"), []byte("b")) == sha.Mac([]byte("b"), []byte("a")) {
		t.Error("P1.3: key and text are taken for each other")
	}
}

func TestMacLeavesItsArguments(t *testing.T) {
	for _, n := range []int{0, 1, 31, 32, 63, 64, 65, 130} {
		key, checkKey := guarded(t, filled(n))
		text, checkText := guarded(t, filled(n+1))
		sha.Mac(key, text)
		checkKey("Mac")
		checkText("Mac")
	}
}

// taggedByHand puts together what Tagged is the digest of.
func taggedByHand(name string, texts ...[]byte) api.Digest {
	tag := sha256.Sum256([]byte(name))
	return api.Digest(sha256.Sum256(slices.Concat(tag[:], tag[:], slices.Concat(texts...))))
}

func TestTagged(t *testing.T) {
	long := filled(200)
	for _, name := range []string{"", "x", "tollhouse/leaf", "BIP0340/challenge", strings.Repeat("n", 64), "\x00\xff"} {
		for _, texts := range [][][]byte{
			nil,
			{},
			{nil},
			{{}, nil, {}},
			{[]byte("a")},
			{[]byte("a"), []byte("bc")},
			{[]byte("bc"), []byte("a")},
			{long[:64], long[64:], nil, long[:1]},
		} {
			if got := sha.Tagged(name, texts...); got != taggedByHand(name, texts...) {
				t.Errorf("P1.4: Tagged(%q, %d texts): %x", name, len(texts), got)
			}
		}
	}
	if sha.Tagged("x") != sha.Tagged("x", nil) {
		t.Error("P1.4: no texts are not the same as an empty one")
	}
	if sha.Tagged("x", []byte("a")) == sha.Tagged("y", []byte("a")) {
		t.Error("P1.4: the name does not count")
	}
	if sha.Tagged("a", []byte("b")) == sha.Tagged("ab") {
		t.Error("P1.4: name and texts run into one another")
	}
}

func TestTaggedLeavesItsArguments(t *testing.T) {
	a, checkA := guarded(t, []byte("first"))
	b, checkB := guarded(t, filled(100))
	list := [][]byte{a, b, []byte("behind")}
	sha.Tagged("name", list[:2]...)
	checkA("Tagged")
	checkB("Tagged")
	if len(list) != 3 || &list[0][0] != &a[0] || &list[1][0] != &b[0] || string(list[2]) != "behind" {
		t.Error("R5: Tagged has changed its list")
	}
}

func TestLess(t *testing.T) {
	base := api.Digest(sha256.Sum256([]byte("base")))
	if sha.Less(base, base) || sha.Less(api.Digest{}, api.Digest{}) {
		t.Error("P1.5: a digest precedes itself")
	}
	for at := range base {
		for _, c := range []struct{ low, high byte }{{0, 1}, {0x7f, 0x80}, {0, 0xff}, {0xfe, 0xff}, {9, 10}} {
			a, b := base, base
			a[at], b[at] = c.low, c.high
			for i := at + 1; i < len(a); i++ { // what follows the first difference says the opposite
				a[i], b[i] = 0xff, 0
			}
			if !sha.Less(a, b) || sha.Less(b, a) {
				t.Errorf("P1.5: byte %d: %x against %x", at, c.low, c.high)
			}
		}
	}
}

func TestLessIsTheOrderOfNumbers(t *testing.T) {
	var l []api.Digest
	for i := range 40 {
		l = append(l, sha.Of([]byte{byte(i)}))
	}
	l = append(l, l[7], api.Digest{}, api.Digest(bytes.Repeat([]byte{0xff}, 32)))
	for _, a := range l {
		for _, b := range l {
			want := new(big.Int).SetBytes(a[:]).Cmp(new(big.Int).SetBytes(b[:])) < 0
			if sha.Less(a, b) != want {
				t.Errorf("P1.5: Less(%x, %x) is %v", a, b, !want)
			}
		}
	}
}

func TestPiecesOfTwo(t *testing.T) {
	for _, n := range edges {
		all := filled(n)
		want := sha.Of(all)
		for cut := range n + 1 {
			h := written(all[:cut], all[cut:])
			if h.Sum() != want || h.Len() != n {
				t.Errorf("P1.6: %d bytes, cut at %d", n, cut)
			}
			if sha.Tagged("t", all[:cut], all[cut:]) != sha.Tagged("t", all) {
				t.Errorf("P1.6: Tagged of %d bytes, cut at %d", n, cut)
			}
		}
	}
}

func TestPiecesOfOneSize(t *testing.T) {
	all := filled(1000)
	want, tagged := sha.Of(all), sha.Tagged("t", all)
	for size := 1; size <= 260; size++ {
		pieces := slices.Collect(slices.Chunk(all, size))
		if h := written(pieces...); h.Sum() != want || h.Len() != len(all) {
			t.Errorf("P1.6: pieces of %d bytes", size)
		}
		if sha.Tagged("t", pieces...) != tagged {
			t.Errorf("P1.6: Tagged, pieces of %d bytes", size)
		}
	}
}

func TestPiecesWithEmptyOnes(t *testing.T) {
	all := filled(129)
	want := sha.Of(all)
	h := written(nil, all[:63], nil, all[63:64], []byte{}, all[64:65], nil, all[65:], nil)
	if h.Sum() != want || h.Len() != len(all) {
		t.Error("P1.6: empty pieces among others")
	}
	if sha.Tagged("t", nil, all[:64], []byte{}, nil, all[64:], nil) != sha.Tagged("t", all) {
		t.Error("P1.6: Tagged, empty pieces among others")
	}
}

// FuzzPieces lets go test -fuzz look for a text and a cut that matter.
func FuzzPieces(f *testing.F) {
	for _, n := range edges {
		f.Add(filled(n), n/2)
	}
	f.Fuzz(func(t *testing.T, all []byte, cut int) {
		cut = max(0, min(cut, len(all)))
		want := api.Digest(sha256.Sum256(all))
		if sha.Of(all) != want || written(all[:cut], all[cut:]).Sum() != want {
			t.Errorf("P1.1, P1.6: %x, cut at %d", all, cut)
		}
	})
}
