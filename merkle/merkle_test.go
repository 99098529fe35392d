package merkle_test

import (
	"bytes"
	"crypto/sha256"
	"encoding/hex"
	"math"
	"slices"
	"strings"
	"testing"

	"tollhouse/api"
	"tollhouse/merkle"
)

// lengths are those of a power of 2, one less and one more, and what lies about them.
var lengths = []int{1, 2, 3, 4, 5, 6, 7, 8, 9, 10, 11, 15, 16, 17, 31, 32, 33, 63, 64, 65, 100}

// tagged puts together what a tagged hash is the digest of, without the project's own hash.
func tagged(name string, texts ...[]byte) api.Digest {
	tag := sha256.Sum256([]byte(name))
	return api.Digest(sha256.Sum256(slices.Concat(tag[:], tag[:], slices.Concat(texts...))))
}

// node is what Node should tell.
func node(left, right api.Digest) api.Digest {
	return tagged("tollhouse/node", left[:], right[:])
}

// digest is the i-th of digests that are all unlike.
func digest(i int) api.Digest {
	return tagged("a digest of the tests", []byte{byte(i >> 24), byte(i >> 16), byte(i >> 8), byte(i)})
}

// digests are the first n of them.
func digests(n int) []api.Digest {
	l := make([]api.Digest, n)
	for i := range l {
		l[i] = digest(i)
	}
	return l
}

// row is the row of a tree above one: neighbours are joined, and one that has none goes up as it is. It makes the same tree as cutting at powers of 2 does, by another way.
func row(l []api.Digest) []api.Digest {
	var up []api.Digest
	for i := 0; i < len(l); i += 2 {
		if i+1 < len(l) {
			up = append(up, node(l[i], l[i+1]))
		} else {
			up = append(up, l[i])
		}
	}
	return up
}

// rootOf is what Root should tell of at least one digest, and pathOf what Path should.
func rootOf(l []api.Digest) api.Digest {
	for len(l) > 1 {
		l = row(l)
	}
	return l[0]
}

func pathOf(l []api.Digest, place int) []api.Digest {
	var path []api.Digest
	for ; len(l) > 1; l, place = row(l), place/2 {
		if place^1 < len(l) {
			path = append(path, l[place^1])
		}
	}
	return path
}

// stepsOf is how many siblings the way has from a place of so many, by going up row by row.
func stepsOf(place, many uint32) int {
	n := 0
	for last := many - 1; last > 0; place, last = place/2, last/2 {
		if place^1 <= last {
			n++
		}
	}
	return n
}

// ledTo is the root to which a path of the right length leads.
func ledTo(leaf api.Digest, place, many uint32, path []api.Digest) api.Digest {
	at := leaf
	for last := many - 1; last > 0; place, last = place/2, last/2 {
		switch {
		case place%2 == 1:
			at, path = node(path[0], at), path[1:]
		case place < last:
			at, path = node(at, path[0]), path[1:]
		}
	}
	return at
}

// guarded gives a list with room behind it, and a check that nobody has touched any of it.
func guarded(t *testing.T, l []api.Digest) (part []api.Digest, check func(what string)) {
	room := slices.Concat(digests(2), l, digests(70))
	was := slices.Clone(room)
	return room[2 : 2+len(l)], func(what string) {
		t.Helper()
		if !slices.Equal(room, was) {
			t.Errorf("R5: %s has changed its list, or what lies behind it", what)
		}
	}
}

// scribble writes into a list and its whole capacity.
func scribble(l []api.Digest) {
	for i := range l[:cap(l)] {
		l[:cap(l)][i] = api.Digest{0xee, byte(i)}
	}
}

func TestLeaf(t *testing.T) {
	for _, b := range [][]byte{nil, {}, {0}, []byte("a"), []byte("tollhouse/leaf"), bytes.Repeat([]byte{0xff}, 64), make([]byte, 1000)} {
		was := bytes.Clone(b)
		if merkle.Leaf(b) != tagged("tollhouse/leaf", b) {
			t.Errorf("P2.1: Leaf of %d bytes", len(b))
		}
		if !bytes.Equal(b, was) {
			t.Errorf("R5: Leaf of %d bytes has changed them", len(b))
		}
	}
	if merkle.Leaf(nil) != merkle.Leaf([]byte{}) {
		t.Error("P2.1, R4: nil and no bytes are not the same")
	}
}

func TestLeafLeavesWhatLiesBehind(t *testing.T) {
	room := bytes.Repeat([]byte{0xcc}, 300)
	first := merkle.Leaf(room[:20])
	if !bytes.Equal(room, bytes.Repeat([]byte{0xcc}, 300)) {
		t.Error("R5: Leaf has changed what lies behind its argument")
	}
	room[20]++
	if merkle.Leaf(room[:20]) != first {
		t.Error("P2.1: what lies behind the bytes counts")
	}
	room[19]++
	if merkle.Leaf(room[:20]) == first {
		t.Error("P2.1: the last byte does not count")
	}
}

func TestNode(t *testing.T) {
	for i := range 8 {
		for j := range 8 {
			if merkle.Node(digest(i), digest(j)) != node(digest(i), digest(j)) {
				t.Errorf("P2.1: Node of %d and %d", i, j)
			}
		}
	}
	none := api.Digest{}
	if merkle.Node(none, none) != tagged("tollhouse/node", make([]byte, 64)) {
		t.Error("P2.1: Node of zeros")
	}
	if merkle.Node(digest(0), digest(1)) == merkle.Node(digest(1), digest(0)) {
		t.Error("P2.1: left and right are taken for each other")
	}
	a, b := digest(0), digest(1)
	if merkle.Node(a, b) == merkle.Leaf(slices.Concat(a[:], b[:])) {
		t.Error("P2.1: a leaf is taken for a node")
	}
}

// The digests themselves, worked out by another program.
func TestKnownDigests(t *testing.T) {
	zero, one := api.Digest{}, api.Digest{31: 1}
	for what, c := range map[string]struct {
		got  api.Digest
		want string
	}{
		"Leaf of no bytes":      {merkle.Leaf(nil), "3aa3636630bc120889f02cc2b2f460121b62e33b8402bd5fa0b7b63aee1d77f2"},
		"Leaf of abc":           {merkle.Leaf([]byte("abc")), "a18e5b29c2ab856e2a2abb116187faa3a08a5c0120ba063f6b7da37f3adbd94a"},
		"Node of zero and one":  {merkle.Node(zero, one), "7d0217bd75d86ad60ff6a858b516581060b7358b5ef322632e5870b0b345254b"},
		"Root of none":          {merkle.Root(nil), "bfeb3924e9918714abfb812f540453b01179629ba9c6c03440d594563fc2a8c7"},
		"Root of three":         {merkle.Root([]api.Digest{zero, one, zero}), "509a78120cb6bc6d05cf7b2aaaa795f14a5ec3cba20e9664e5431e47bf44c924"},
		"Root of five":          {merkle.Root([]api.Digest{zero, one, zero, one, one}), "c40631c0da21df5655937b7a92be28da156c5b522a71ca67c087aefbd82bbbe8"},
		"Root of seven of zero": {merkle.Root(make([]api.Digest, 7)), "9fb0732803d0b59b231d6069558027120bbbce18839f2caf5b9f33470fc7db13"},
	} {
		if got := hex.EncodeToString(c.got[:]); got != c.want {
			t.Errorf("P2.1, P2.2: %s: %s", what, got)
		}
	}
}

func TestRootOfNone(t *testing.T) {
	want := tagged("tollhouse/none")
	if merkle.Root(nil) != want || merkle.Root([]api.Digest{}) != want || merkle.Root(digests(3)[:0]) != want {
		t.Error("P2.2: the root of an empty list")
	}
}

func TestRootOfFew(t *testing.T) {
	a, b, c, d, e := digest(0), digest(1), digest(2), digest(3), digest(4)
	for _, x := range []struct {
		l    []api.Digest
		want api.Digest
	}{
		{[]api.Digest{a}, a},
		{[]api.Digest{{}}, api.Digest{}},
		{[]api.Digest{a, b}, node(a, b)},
		{[]api.Digest{b, a}, node(b, a)},
		{[]api.Digest{a, a}, node(a, a)},
		{[]api.Digest{a, b, c}, node(node(a, b), c)},
		{[]api.Digest{a, b, c, d}, node(node(a, b), node(c, d))},
		{[]api.Digest{a, b, c, d, e}, node(node(node(a, b), node(c, d)), e)},
		{[]api.Digest{a, b, c, d, e, a}, node(node(node(a, b), node(c, d)), node(e, a))},
		{[]api.Digest{a, b, c, d, e, a, b}, node(node(node(a, b), node(c, d)), node(node(e, a), b))},
	} {
		if merkle.Root(x.l) != x.want {
			t.Errorf("P2.2: the root of %d", len(x.l))
		}
	}
}

// Root is held against the definition itself, and against the way that the other tests go.
func TestRootOfEveryLength(t *testing.T) {
	var byWord func(l []api.Digest) api.Digest
	byWord = func(l []api.Digest) api.Digest {
		if len(l) == 1 {
			return l[0]
		}
		k := 1
		for 2*k < len(l) {
			k *= 2
		}
		return node(byWord(l[:k]), byWord(l[k:]))
	}
	for n := 1; n <= 300; n++ {
		l := digests(n)
		if got := merkle.Root(l); got != byWord(l) || got != rootOf(l) {
			t.Errorf("P2.2: the root of %d", n)
		}
	}
	for _, n := range []int{1023, 1024, 1025, 4097} {
		if l := digests(n); merkle.Root(l) != byWord(l) {
			t.Errorf("P2.2: the root of %d", n)
		}
	}
}

func TestRootHangsOnEveryElement(t *testing.T) {
	for _, n := range lengths {
		l := digests(n)
		root := merkle.Root(l)
		for i := range l {
			for _, at := range []int{0, 31} {
				l[i][at] ^= 1
				if merkle.Root(l) == root {
					t.Errorf("P2.2: byte %d of element %d of %d does not count", at, i, n)
				}
				l[i][at] ^= 1
			}
		}
		if merkle.Root(l) != root {
			t.Errorf("R6: the root of %d is not always the same", n)
		}
	}
}

func TestRootLeavesItsArgument(t *testing.T) {
	for n := range 70 {
		l, check := guarded(t, digests(n))
		merkle.Root(l)
		check("Root")
	}
}

func TestPathOfFew(t *testing.T) {
	a, b, c, d, e := digest(0), digest(1), digest(2), digest(3), digest(4)
	for _, x := range []struct {
		l     []api.Digest
		place int
		want  []api.Digest
	}{
		{[]api.Digest{a}, 0, nil},
		{[]api.Digest{a, b}, 0, []api.Digest{b}},
		{[]api.Digest{a, b}, 1, []api.Digest{a}},
		{[]api.Digest{a, b, c}, 0, []api.Digest{b, c}},
		{[]api.Digest{a, b, c}, 1, []api.Digest{a, c}},
		{[]api.Digest{a, b, c}, 2, []api.Digest{node(a, b)}},
		{[]api.Digest{a, b, c, d}, 1, []api.Digest{a, node(c, d)}},
		{[]api.Digest{a, b, c, d}, 2, []api.Digest{d, node(a, b)}},
		{[]api.Digest{a, b, c, d, e}, 3, []api.Digest{c, node(a, b), e}},
		{[]api.Digest{a, b, c, d, e}, 4, []api.Digest{node(node(a, b), node(c, d))}},
	} {
		if got, ok := merkle.Path(x.l, x.place); !ok || !slices.Equal(got, x.want) {
			t.Errorf("P2.3: the path of %d of %d: %d elements, %v", x.place, len(x.l), len(got), ok)
		}
	}
}

func TestPathOfEveryPlace(t *testing.T) {
	for n := 1; n <= 140; n++ {
		l := digests(n)
		for place := range l {
			if got, ok := merkle.Path(l, place); !ok || !slices.Equal(got, pathOf(l, place)) {
				t.Errorf("P2.3: the path of %d of %d: %d elements, %v", place, n, len(got), ok)
			}
		}
	}
}

func TestPathOfNoElement(t *testing.T) {
	for _, n := range append([]int{0}, lengths...) {
		l := digests(n + 3)[:n]
		for _, place := range []int{-1, -2, -n, -n - 1, n, n + 1, n + 2, 2 * n, 64, 1 << 32, 1<<32 + 1, -1 << 32, math.MaxInt, math.MinInt} {
			if place >= 0 && place < n {
				continue
			}
			if got, ok := merkle.Path(l, place); ok || got != nil {
				t.Errorf("P2.3, R10: the path of %d of %d: %d elements, %v", place, n, len(got), ok)
			}
		}
	}
	if got, ok := merkle.Path(nil, 0); ok || got != nil {
		t.Error("P2.3: the path of nothing")
	}
}

func TestPathLeavesItsArgument(t *testing.T) {
	for _, n := range lengths {
		l, check := guarded(t, digests(n))
		for _, place := range []int{-1, 0, n / 2, n - 1, n} {
			merkle.Path(l, place)
			check("Path")
		}
	}
}

// A path is new memory: it is not part of the list, or of another path, and its capacity is nobody else's.
func TestPathIsNewMemory(t *testing.T) {
	for _, n := range lengths {
		l, check := guarded(t, digests(n))
		paths := make([][]api.Digest, n)
		for place := range l {
			paths[place], _ = merkle.Path(l, place)
		}
		for place := range l {
			again, _ := merkle.Path(l, place)
			scribble(again)
			check("who writes into what Path gave")
		}
		for place := range l {
			if !slices.Equal(paths[place], pathOf(digests(n), place)) {
				t.Errorf("R5: the path of %d of %d was changed through another one", place, n)
			}
			scribble(paths[place])
		}
		kept, _ := merkle.Path(l, 0)
		scribble(l)
		if !slices.Equal(kept, pathOf(digests(n), 0)) {
			t.Errorf("R5: the path of 0 of %d hangs on its list", n)
		}
	}
}

func TestCheckOfFew(t *testing.T) {
	a, b, c := digest(0), digest(1), digest(2)
	for _, x := range []struct {
		what        string
		root, leaf  api.Digest
		place, many uint32
		path        []api.Digest
		want        bool
	}{
		{"one alone", a, a, 0, 1, nil, true},
		{"one alone, an empty list", a, a, 0, 1, []api.Digest{}, true},
		{"another root of one alone", b, a, 0, 1, nil, false},
		{"one alone with a path", a, a, 0, 1, []api.Digest{a}, false},
		{"one of two", node(a, b), a, 0, 2, []api.Digest{b}, true},
		{"the other of two", node(a, b), b, 1, 2, []api.Digest{a}, true},
		{"the wrong side", node(a, b), a, 1, 2, []api.Digest{b}, false},
		{"the wrong side, too", node(a, b), b, 0, 2, []api.Digest{a}, false},
		{"either side, where both are one", node(a, a), a, 1, 2, []api.Digest{a}, true},
		{"one of two without a path", a, a, 0, 2, nil, false},
		{"the third of three", node(node(a, b), c), c, 2, 3, []api.Digest{node(a, b)}, true},
		{"the third of three, as the second of two", node(node(a, b), c), c, 1, 2, []api.Digest{node(a, b)}, true},
		{"the third of three, as the third of four", node(node(a, b), c), c, 2, 4, []api.Digest{node(a, b)}, false},
		{"a path upside down", node(node(a, b), c), a, 0, 3, []api.Digest{c, b}, false},
		{"none of none", merkle.Root(nil), a, 0, 0, nil, false},
		{"none of none, the root", merkle.Root(nil), merkle.Root(nil), 0, 0, nil, false},
		{"zeros of none", api.Digest{}, api.Digest{}, 0, 0, nil, false},
		{"the last number of none", a, a, math.MaxUint32, 0, nil, false},
		{"zeros", api.Digest{}, api.Digest{}, 0, 1, nil, true},
	} {
		if merkle.Check(x.root, x.leaf, x.place, x.many, x.path) != x.want {
			t.Errorf("P2.4: %s: not %v", x.what, x.want)
		}
	}
}

// checkOf is what Check should tell, whatever it is given.
func checkOf(root, leaf api.Digest, place, many uint32, path []api.Digest) bool {
	return place < many && len(path) == stepsOf(place, many) && ledTo(leaf, place, many, path) == root
}

// Every place is claimed of every number of leaves, with the path of every place of every list.
func TestCheckOfEveryClaim(t *testing.T) {
	for n := 1; n <= 9; n++ {
		l := digests(n)
		root := rootOf(l)
		for from := range l {
			path := pathOf(l, from)
			for many := range uint32(19) {
				for place := range uint32(20) {
					if got := merkle.Check(root, l[from], place, many, path); got != checkOf(root, l[from], place, many, path) {
						t.Errorf("P2.4: the path of %d of %d, claimed for %d of %d: %v", from, n, place, many, got)
					}
				}
			}
		}
	}
}

func TestCheckPlaceBeyondTheEnd(t *testing.T) {
	for _, n := range lengths {
		l := digests(n)
		root, many := rootOf(l), uint32(n)
		for i := range l {
			path := pathOf(l, i)
			for _, place := range []uint32{many, many + 1, many + uint32(i), 2 * many, 64 + uint32(i), 1<<31 + uint32(i), math.MaxUint32 - uint32(i), math.MaxUint32} {
				if place >= many && merkle.Check(root, l[i], place, many, path) {
					t.Errorf("P2.4: the path of %d of %d was accepted at %d", i, n, place)
				}
			}
		}
	}
}

func TestCheckLengthOfPath(t *testing.T) {
	for _, n := range lengths {
		l := digests(n)
		root, many := rootOf(l), uint32(n)
		for i := range l {
			place, path := uint32(i), pathOf(l, i)
			long := slices.Concat(path, []api.Digest{root})
			longBelow := slices.Concat([]api.Digest{l[i]}, path)
			if merkle.Check(root, l[i], place, many, long) || merkle.Check(root, l[i], place, many, longBelow) {
				t.Errorf("P2.4: the path of %d of %d was accepted with one more", i, n)
			}
			if none := (api.Digest{}); merkle.Check(none, l[i], place, many, long) || merkle.Check(none, none, many, many, path) {
				t.Errorf("P2.4: what is refused of %d of %d has a root of zeros", i, n)
			}
			if len(path) > 0 && (merkle.Check(root, l[i], place, many, path[1:]) || merkle.Check(root, l[i], place, many, path[:len(path)-1])) {
				t.Errorf("P2.4: the path of %d of %d was accepted with one less", i, n)
			}
			if len(path) > 0 && (merkle.Check(l[i], l[i], place, many, nil) || merkle.Check(root, l[i], place, many, nil)) {
				t.Errorf("P2.4: %d of %d was accepted without a path", i, n)
			}
		}
	}
}

// A path that is too short or too long is refused even where the digests that it has lead to the root that is claimed.
func TestCheckLengthOfPathWithItsOwnRoot(t *testing.T) {
	a, b, c := digest(0), digest(1), digest(2)
	for _, x := range []struct {
		what        string
		root        api.Digest
		place, many uint32
		path        []api.Digest
	}{
		{"one too short, from the left", node(a, b), 0, 3, []api.Digest{b}},
		{"one too short, from the right", node(b, a), 1, 3, []api.Digest{b}},
		{"one too long, from the left", node(node(a, b), c), 0, 2, []api.Digest{b, c}},
		{"one too long, from the right", node(c, node(b, a)), 1, 2, []api.Digest{b, c}},
		{"one too long, from the right, then the left", node(node(b, a), c), 1, 2, []api.Digest{b, c}},
		{"one too long, of one alone", node(a, b), 0, 1, []api.Digest{b}},
		{"one too long, of one alone, the other side", node(b, a), 0, 1, []api.Digest{b}},
		{"one too long, of the last of three", node(c, node(b, a)), 2, 3, []api.Digest{b, c}},
		{"one too long, of the last of three, the other side", node(b, node(a, c)), 2, 3, []api.Digest{c, b}},
	} {
		if merkle.Check(x.root, a, x.place, x.many, x.path) {
			t.Errorf("P2.4: a path %s was accepted", x.what)
		}
	}
}

func TestCheckWrongDigests(t *testing.T) {
	for _, n := range lengths {
		l := digests(n)
		root, many := rootOf(l), uint32(n)
		for i := range l {
			place, path := uint32(i), pathOf(l, i)
			for _, at := range []int{0, 7, 8, 15, 16, 24, 31} {
				wrong := root
				wrong[at] ^= 0x80
				if merkle.Check(wrong, l[i], place, many, path) {
					t.Errorf("P2.4: %d of %d: a wrong root was accepted, byte %d", i, n, at)
				}
				wrong = l[i]
				wrong[at] ^= 1
				if merkle.Check(root, wrong, place, many, path) {
					t.Errorf("P2.4: %d of %d: a wrong leaf was accepted, byte %d", i, n, at)
				}
				for j := range path {
					bad := slices.Clone(path)
					bad[j][at] ^= 0x10
					if merkle.Check(root, l[i], place, many, bad) {
						t.Errorf("P2.4: %d of %d: a wrong element %d was accepted, byte %d", i, n, j, at)
					}
				}
			}
		}
	}
}

// Some places of lists that are too long to be made: the way goes over the whole range of the numbers.
func TestCheckOfManyLeaves(t *testing.T) {
	const last = math.MaxUint32
	for _, many := range []uint32{1 << 16, 1<<16 + 1, 1<<31 - 1, 1 << 31, 1<<31 + 1, 1<<31 + 3, 3 << 30, 3<<30 + 1, last - 1, last} {
		for _, place := range []uint32{0, 1, 2, many/2 - 1, many / 2, 1 << 15, 1<<31 - 1, 1 << 31, 1<<31 + 1, many - 3, many - 2, many - 1} {
			if place >= many {
				continue
			}
			path := digests(stepsOf(place, many))
			root := ledTo(digest(99), place, many, path)
			if !merkle.Check(root, digest(99), place, many, path) {
				t.Errorf("P2.4: %d of %d was refused", place, many)
			}
			if merkle.Check(root, digest(99), place, many, path[1:]) || merkle.Check(root, digest(99), place, many, digests(len(path)+1)) {
				t.Errorf("P2.4: %d of %d was accepted with one less or one more", place, many)
			}
			if merkle.Check(root, digest(98), place, many, path) || merkle.Check(root, digest(99), place^1, many, path) {
				t.Errorf("P2.4: another leaf, or its neighbour, was accepted at %d of %d", place, many)
			}
		}
	}
	if merkle.Check(digest(0), digest(0), last, last, digests(32)) || merkle.Check(digest(0), digest(0), 0, last, digests(1000)) {
		t.Error("P2.4: what is beyond the end was accepted")
	}
}

func TestCheckLeavesItsArgument(t *testing.T) {
	for _, n := range lengths {
		l := digests(n)
		for i := range l {
			path, check := guarded(t, pathOf(l, i))
			merkle.Check(rootOf(l), l[i], uint32(i), uint32(n), path)
			check("Check")
			merkle.Check(rootOf(l), l[i], uint32(i), uint32(n)+1, path)
			check("Check")
		}
	}
}

func TestWhatPathGivesCheckAccepts(t *testing.T) {
	for n := 1; n <= 140; n++ {
		l := digests(n)
		root := merkle.Root(l)
		for i, leaf := range l {
			path, ok := merkle.Path(l, i)
			if !ok || !merkle.Check(root, leaf, uint32(i), uint32(n), path) {
				t.Errorf("P2.6: %d of %d", i, n)
			}
		}
	}
}

func TestWhatPathGivesCheckAcceptsOfLike(t *testing.T) {
	for n := 1; n <= 20; n++ {
		l := make([]api.Digest, n)
		for i := range l {
			l[i] = merkle.Leaf([]byte(strings.Repeat("x", i/2)))
		}
		for i, leaf := range l {
			path, ok := merkle.Path(l, i)
			if !ok || !merkle.Check(merkle.Root(l), leaf, uint32(i), uint32(n), path) {
				t.Errorf("P2.6: %d of %d, neighbours alike", i, n)
			}
		}
	}
}
