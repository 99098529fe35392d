package merkle_test

import (
	"bytes"
	"crypto/sha256"
	"encoding/json"
	"math"
	"math/rand"
	"os"
	"os/exec"
	"path/filepath"
	"slices"
	"strings"
	"testing"

	"tollhouse/api"
	"tollhouse/merkle"
	"tollhouse/sha"
)

// weakSha stands in for package sha where a clash has to be found: long texts, as a Node's is, have one of two digests.
const weakSha = `package sha

import (
	"bytes"
	"crypto/hmac"
	"crypto/sha256"
	"slices"

	"tollhouse/api"
)

func Of(b []byte) api.Digest {
	d := api.Digest(sha256.Sum256(b))
	if len(b) >= 128 {
		d = api.Digest{d[0] & 1}
	}
	return d
}

type Hash struct{ all []byte }

func New() *Hash { return &Hash{} }

func (h *Hash) Write(b []byte) { h.all = append(h.all, b...) }

func (h *Hash) Sum() api.Digest { return Of(h.all) }

func (h *Hash) Len() int { return len(h.all) }

func (h *Hash) Clone() *Hash { return &Hash{slices.Clone(h.all)} }

func Mac(key, text []byte) api.Digest {
	m := hmac.New(sha256.New, key)
	m.Write(text)
	return api.Digest(m.Sum(nil))
}

func Tagged(name string, texts ...[]byte) api.Digest {
	t := Of([]byte(name))
	return Of(slices.Concat(t[:], t[:], slices.Concat(texts...)))
}

func Less(a, b api.Digest) bool { return bytes.Compare(a[:], b[:]) < 0 }
`

// weakly is set in the environment of the process that runs over the weak digests.
const weakly = "TOLLHOUSE_WEAK_DIGESTS"

// weakTest is a test that needs a clash to be found.
type weakTest struct {
	name string
	run  func(t *testing.T)
}

func weakTests() []weakTest {
	return []weakTest{
		{"clashes", testClashes},
		{"one-place", testClashAtOnePlace},
		{"refused", testClashRefused},
		{"memory", testClashMemory},
		{"two-leaves", testTwoLeaves},
	}
}

// TestOverWeakDigests runs these tests in a process of its own, with the package sha of above in the place of the project's, because no clash of the project's own digests is known to anybody.
func TestOverWeakDigests(t *testing.T) {
	if os.Getenv(weakly) != "" {
		runWeakTests(t)
		return
	}
	run := exec.Command("go", "test", "-count=1", "-v", "-overlay="+overlay(t), "-run=^TestOverWeakDigests$", ".")
	run.Env = append(os.Environ(), weakly+"=1")
	out, err := run.CombinedOutput()
	if err != nil {
		t.Fatalf("over weak digests: %v\n%s", err, out)
	}
	for _, test := range weakTests() {
		if !strings.Contains(string(out), "--- PASS: TestOverWeakDigests/"+test.name) {
			t.Errorf("%s did not run over weak digests\n%s", test.name, out)
		}
	}
}

func runWeakTests(t *testing.T) {
	if d := sha.Of(make([]byte, 128)); d != (api.Digest{d[0] & 1}) {
		t.Fatal("these are not the weak digests")
	}
	for _, test := range weakTests() {
		t.Run(test.name, test.run)
	}
}

// overlay makes a file that tells the go command what to build in the place of package sha.
func overlay(t *testing.T) string {
	t.Helper()
	files, err := filepath.Glob("../sha/*.go")
	if err != nil || len(files) == 0 {
		t.Fatalf("no package sha: %v", err)
	}
	weak := filepath.Join(t.TempDir(), "weak.go")
	write(t, weak, []byte(weakSha))
	instead := map[string]string{}
	for _, file := range files {
		if strings.HasSuffix(file, "_test.go") {
			continue
		}
		path, err := filepath.Abs(file)
		if err != nil {
			t.Fatal(err)
		}
		instead[path], weak = weak, "" // the other files of the package are left out
	}
	text, err := json.Marshal(map[string]any{"Replace": instead})
	if err != nil {
		t.Fatal(err)
	}
	list := filepath.Join(t.TempDir(), "overlay.json")
	write(t, list, text)
	return list
}

func write(t *testing.T, path string, b []byte) {
	t.Helper()
	if err := os.WriteFile(path, b, 0o600); err != nil {
		t.Fatal(err)
	}
}

// way is a leaf and its path.
type way struct {
	leaf api.Digest
	path []api.Digest
}

func (w way) is(v way) bool { return w.leaf == v.leaf && slices.Equal(w.path, v.path) }

// texts are what the Nodes of a way are the digests of, from the leaf upwards, and the root to which it leads.
func (w way) texts(place, many uint32) (texts [][]byte, root api.Digest) {
	tag := sha256.Sum256([]byte("tollhouse/node"))
	at, path := w.leaf, w.path
	for last := many - 1; last > 0; place, last = place/2, last/2 {
		if place%2 == 0 && place == last {
			continue // no sibling in this row
		}
		left, right := at, path[0]
		if place%2 == 1 {
			left, right = right, left
		}
		text := slices.Concat(tag[:], tag[:], left[:], right[:])
		texts, at, path = append(texts, text), sha.Of(text), path[1:]
	}
	return texts, at
}

// clashOf is what Clash should tell of two ways of the right length: also at which Node, counted from the leaf, and how many Nodes differ.
func clashOf(v, w way, place, many uint32) (x, y []byte, at, differ int) {
	first, root := v.texts(place, many)
	second, same := w.texts(place, many)
	if root != same {
		return nil, nil, -1, 0
	}
	at = -1
	for i := range first {
		if !bytes.Equal(first[i], second[i]) {
			x, y, at, differ = first[i], second[i], i, differ+1
		}
	}
	return x, y, at, differ
}

// clashes holds Clash against it.
func clashes(t *testing.T, what string, v, w way, place, many uint32) (at, differ int) {
	t.Helper()
	wantX, wantY, at, differ := clashOf(v, w, place, many)
	x, y, ok := merkle.Clash(v.leaf, w.leaf, place, many, v.path, w.path)
	if ok != (at >= 0) || !bytes.Equal(x, wantX) || !bytes.Equal(y, wantY) {
		t.Errorf("P2.5: %s, %d of %d: %v instead of %v,\n%x instead of\n%x, and\n%x instead of\n%x", what, place, many, ok, at >= 0, x, wantX, y, wantY)
	}
	if !ok && (x != nil || y != nil) {
		t.Errorf("P2.5: %s, %d of %d: texts beside false", what, place, many)
	}
	return at, differ
}

// anyWay draws a way of the right length out of few digests, so that two are often alike somewhere.
func anyWay(r *rand.Rand, place, many uint32) way {
	w := way{digest(r.Intn(3)), make([]api.Digest, stepsOf(place, many))}
	for i := range w.path {
		w.path[i] = digest(r.Intn(3))
	}
	return w
}

// otherWay draws one that has the same root over weak digests.
func otherWay(t *testing.T, r *rand.Rand, v way, place, many uint32) way {
	t.Helper()
	_, root := v.texts(place, many)
	for range 10000 {
		w := anyWay(r, place, many)
		if _, same := w.texts(place, many); root == same && !v.is(w) {
			return w
		}
	}
	t.Fatalf("no two ways to one root, at %d of %d", place, many)
	return way{}
}

// several are places of some lists, from which at least one step leads up.
func several(visit func(place, many uint32)) {
	for many := uint32(2); many <= 18; many++ {
		for place := range many {
			visit(place, many)
		}
	}
	for _, many := range []uint32{1<<31 - 1, 1 << 31, 1<<31 + 1, math.MaxUint32} {
		for _, place := range []uint32{0, 1, many / 2, many - 2, many - 1} {
			visit(place, many)
		}
	}
}

func testClashes(t *testing.T) {
	r := rand.New(rand.NewSource(1))
	found, none, atTop, below, more := 0, 0, 0, 0, 0
	several(func(place, many uint32) {
		for range 100 {
			v, w := anyWay(r, place, many), anyWay(r, place, many)
			at, differ := clashes(t, "two ways", v, w, place, many)
			switch {
			case at < 0:
				none++
			case at == len(v.path)-1:
				found, atTop = found+1, atTop+1
			default:
				found, below = found+1, below+1
			}
			if differ > 1 {
				more++
			}
			clashes(t, "one way twice", v, way{v.leaf, slices.Clone(v.path)}, place, many)
		}
	})
	if min(found, none, atTop, below, more) < 100 {
		t.Errorf("too few of a kind were tried: %d clashes, %d without, %d at the root, %d below, %d at several Nodes", found, none, atTop, below, more)
	}
}

// The ways differ at the leaf alone, or in one element alone.
func testClashAtOnePlace(t *testing.T) {
	r := rand.New(rand.NewSource(2))
	leaves, elements := 0, 0
	several(func(place, many uint32) {
		for i := range 40 {
			v := anyWay(r, place, many)
			leaf := way{digest(10 + i), v.path}
			if at, _ := clashes(t, "two leaves", v, leaf, place, many); at >= 0 {
				leaves++
			}
			for j := range v.path {
				element := way{v.leaf, slices.Clone(v.path)}
				element.path[j] = digest(10 + i)
				if at, _ := clashes(t, "two elements", v, element, place, many); at >= 0 {
					elements++
				}
			}
		}
	})
	if min(leaves, elements) < 1000 {
		t.Errorf("too few of a kind were tried: %d leaves, %d elements", leaves, elements)
	}
}

// Wherever Check refuses one of the ways, there is no clash, though another claim would have one.
func testClashRefused(t *testing.T) {
	r := rand.New(rand.NewSource(3))
	several(func(place, many uint32) {
		v := anyWay(r, place, many)
		w := otherWay(t, r, v, place, many)
		if _, _, ok := merkle.Clash(v.leaf, w.leaf, place, many, v.path, w.path); !ok {
			t.Fatalf("P2.5: no clash at %d of %d", place, many)
		}
		end := len(v.path)
		none := func(what string, place uint32, p, q []api.Digest) {
			t.Helper()
			if x, y, ok := merkle.Clash(v.leaf, w.leaf, place, many, p, q); ok || x != nil || y != nil {
				t.Errorf("P2.5: a clash of %s, %d of %d", what, place, many)
			}
		}
		none("places beyond the end", many, v.path, w.path)
		none("places far beyond the end", max(many, place+64), v.path, w.path)
		for _, more := range []api.Digest{{}, {1}, digest(0)} {
			long, longer := append(slices.Clone(v.path), more), append(slices.Clone(w.path), more)
			none("one path too long", place, long, w.path)
			none("the other path too long", place, v.path, longer)
			none("both paths too long", place, long, longer)
		}
		none("one path too short", place, v.path[:end-1], w.path)
		none("the other path too short", place, v.path, w.path[:end-1])
		none("both paths too short", place, v.path[1:], w.path[1:])
		none("no paths", place, nil, nil)
		if x, y, ok := merkle.Clash(v.leaf, w.leaf, 0, 0, nil, nil); ok || x != nil || y != nil {
			t.Error("P2.5: a clash in an empty list")
		}
	})
}

// The texts are new memory: neither is part of the other, of a path, or of what an earlier call gave.
func testClashMemory(t *testing.T) {
	r := rand.New(rand.NewSource(4))
	several(func(place, many uint32) {
		v := anyWay(r, place, many)
		w := otherWay(t, r, v, place, many)
		wantX, wantY, _, _ := clashOf(v, w, place, many)
		p, checkP := guarded(t, v.path)
		q, checkQ := guarded(t, w.path)
		x, y, _ := merkle.Clash(v.leaf, w.leaf, place, many, p, q)
		checkP("Clash")
		checkQ("Clash")
		for range 2 {
			again, too, _ := merkle.Clash(v.leaf, w.leaf, place, many, p, q)
			fill(again)
			if !bytes.Equal(too, wantY) {
				t.Errorf("R5: the texts of a clash share memory, at %d of %d", place, many)
			}
			fill(too)
			checkP("who writes into what Clash gave")
			checkQ("who writes into what Clash gave")
		}
		scribble(p)
		scribble(q)
		if !bytes.Equal(x, wantX) || !bytes.Equal(y, wantY) {
			t.Errorf("R5: the texts of a clash were changed through a path or a later call, at %d of %d", place, many)
		}
		fill(y)
		if !bytes.Equal(x, wantX) {
			t.Errorf("R5: the texts of a clash share memory, at %d of %d", place, many)
		}
	})
}

// fill writes into a text and its whole capacity.
func fill(b []byte) {
	for i := range b[:cap(b)] {
		b[:cap(b)][i] = 0xee
	}
}

func testTwoLeaves(t *testing.T) {
	r := rand.New(rand.NewSource(5))
	found := 0
	several(func(place, many uint32) {
		for range 60 {
			v, w := anyWay(r, place, many), anyWay(r, place, many)
			_, root := v.texts(place, many)
			if v.leaf == w.leaf || !merkle.Check(root, v.leaf, place, many, v.path) || !merkle.Check(root, w.leaf, place, many, w.path) {
				continue
			}
			found++
			x, y, ok := merkle.Clash(v.leaf, w.leaf, place, many, v.path, w.path)
			if !ok || bytes.Equal(x, y) || sha.Of(x) != sha.Of(y) {
				t.Errorf("P2.7: two leaves at %d of %d: %v\n%x\n%x", place, many, ok, x, y)
			}
		}
	})
	if found < 1000 {
		t.Errorf("P2.7: only %d pairs of leaves", found)
	}
}

// What follows needs no clash, and holds over the project's own digests.

func TestClashOfEqualWays(t *testing.T) {
	for _, n := range lengths {
		l := digests(n)
		for i, leaf := range l {
			path := pathOf(l, i)
			x, y, ok := merkle.Clash(leaf, leaf, uint32(i), uint32(n), path, slices.Clone(path))
			if ok || x != nil || y != nil {
				t.Errorf("P2.5: a clash of equal ways, at %d of %d", i, n)
			}
		}
	}
	if x, y, ok := merkle.Clash(digest(0), digest(0), 0, 1, nil, []api.Digest{}); ok || x != nil || y != nil {
		t.Error("P2.5, R4: a clash of nil and an empty path")
	}
}

// noClash holds that there is none, whichever way comes first.
func noClash(t *testing.T, what string, a, b api.Digest, place, many uint32, p, q []api.Digest) {
	t.Helper()
	for range 2 {
		if x, y, ok := merkle.Clash(a, b, place, many, p, q); ok || x != nil || y != nil {
			t.Errorf("P2.5: a clash of %s, at %d of %d", what, place, many)
		}
		a, b, p, q = b, a, q, p
	}
}

// Ways that differ lead to roots that differ, as far as anybody knows.
func TestClashOfUnlikeRoots(t *testing.T) {
	for _, n := range lengths {
		l := digests(n)
		for i, leaf := range l {
			place, many, path := uint32(i), uint32(n), pathOf(l, i)
			noClash(t, "two leaves", leaf, digest(n), place, many, path, path)
			for j := range path {
				other := slices.Clone(path)
				other[j][31] ^= 1
				noClash(t, "two elements", leaf, leaf, place, many, path, other)
				noClash(t, "two leaves and two elements", leaf, digest(n), place, many, path, other)
			}
		}
	}
}

func TestClashRefused(t *testing.T) {
	for _, n := range lengths {
		l := digests(n)
		for i, leaf := range l {
			place, many, path := uint32(i), uint32(n), pathOf(l, i)
			long := slices.Concat(path, digests(1))
			noClash(t, "one path too long", leaf, leaf, place, many, path, long)
			noClash(t, "paths too long", leaf, digest(n), place, many, long, long)
			if len(path) > 0 {
				short := path[:len(path)-1]
				noClash(t, "one path too short", leaf, leaf, place, many, path, short)
				noClash(t, "paths too short", leaf, digest(n), place, many, short, path[1:])
				noClash(t, "no paths", leaf, digest(n), place, many, nil, nil)
			}
			for _, beyond := range []uint32{many, many + 1, math.MaxUint32} {
				noClash(t, "places beyond the end", leaf, digest(n), beyond, many, path, path)
				noClash(t, "paths that differ, beyond the end", leaf, leaf, beyond, many, path, long)
			}
			noClash(t, "leaves of nothing", leaf, digest(n), place, 0, path, path)
		}
	}
	noClash(t, "leaves of nothing", digest(0), digest(1), 0, 0, nil, nil)
	noClash(t, "leaves of nothing", digest(0), digest(1), math.MaxUint32, 0, nil, nil)
}

// A digest that is the Node of two stands for a leaf as well: the same root at another place or of another number is no clash.
func TestClashOfNodeAsLeaf(t *testing.T) {
	a, b, c := digest(0), digest(1), digest(2)
	noClash(t, "a leaf and a node", a, node(a, b), 0, 3, []api.Digest{b, c}, []api.Digest{c})
	noClash(t, "a node and a leaf", node(a, b), a, 0, 2, []api.Digest{c}, []api.Digest{b, c})
	noClash(t, "one alone and a node", node(a, b), a, 0, 1, nil, []api.Digest{b})
}

func TestClashLeavesItsArguments(t *testing.T) {
	for _, n := range lengths {
		l := digests(n)
		for i, leaf := range l {
			p, checkP := guarded(t, pathOf(l, i))
			q, checkQ := guarded(t, pathOf(l, i))
			merkle.Clash(leaf, leaf, uint32(i), uint32(n), p, q)
			merkle.Clash(leaf, digest(n), uint32(i), uint32(n), p, q)
			merkle.Clash(leaf, leaf, uint32(n), uint32(n), p, q)
			checkP("Clash")
			checkQ("Clash")
		}
	}
}
