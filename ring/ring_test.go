package ring_test

import (
	"encoding/binary"
	"encoding/hex"
	"math"
	"reflect"
	"slices"
	"testing"

	"tollhouse/api"
	"tollhouse/curve"
	"tollhouse/ring"
	"tollhouse/scalar"
	"tollhouse/sha"
)

const all = math.MaxUint64 // a word of ones

// The lower words of n; above them stand all - 1, and all.
const (
	n0 = 0xbfd25e8cd0364141
	n1 = 0xbaaedce6af48a03b
)

var (
	none    = api.Scalar{}
	one     = api.Scalar{1}
	order   = api.Scalar{n0, n1, all - 1, all}
	lessOne = api.Scalar{n0 - 1, n1, all - 1, all}
	moreOne = api.Scalar{n0 + 1, n1, all - 1, all}
	highest = api.Scalar{all, all, all, all}
)

var (
	base = curve.Base()
	zero = api.Point{Inf: true}
)

var (
	seed = api.Digest(counted(32))
	ones = api.Digest(slices.Repeat([]byte{0xff}, 32))
	abc  = []byte("abc")
	long = counted(1000)
)

// counted are so many bytes that count up.
func counted(many int) []byte {
	b := make([]byte, many)
	for i := range b {
		b[i] = byte(i)
	}
	return b
}

// secretOf is the secret of the key keyOf.
func secretOf(i, j int) api.Scalar { return scalar.Reduce(sha.Of([]byte{byte(i), byte(j)})) }

func keyOf(i, j int) api.Point { return curve.Mul(secretOf(i, j), base) }

// grid are rings of so many keys, all of which are known.
func grid(sizes ...int) [][]api.Point {
	l := make([][]api.Point, len(sizes))
	for i, many := range sizes {
		for j := range many {
			l[i] = append(l[i], keyOf(i, j))
		}
	}
	return l
}

// known are the secrets of a grid's keys, one of each ring.
func known(at ...int) []api.Secret {
	var l []api.Secret
	for i, j := range at {
		l = append(l, api.Secret{At: j, X: secretOf(i, j)})
	}
	return l
}

// only is one ring.
func only(keys ...api.Point) [][]api.Point { return [][]api.Point{keys} }

// secret is that of one ring.
func secret(at int, x api.Scalar) []api.Secret { return []api.Secret{{At: at, X: x}} }

// times are so many numbers that are all the same.
func times(many, n int) []int { return slices.Repeat([]int{n}, many) }

// written is what Encode has to make of scalars that are below n.
func written(s api.RingSig) []byte {
	b := slices.Clone(s.First[:])
	for _, row := range s.S {
		for _, k := range row {
			for _, word := range slices.Backward(k[:]) {
				b = binary.BigEndian.AppendUint64(b, word)
			}
		}
	}
	return b
}

type signed struct {
	name  string
	seed  api.Digest
	text  []byte
	rings [][]api.Point
	l     []api.Secret
	want  string // of what is written; where it is long, the SHA-256 digest of it
}

// signatures were worked out by another program.
func signatures() []signed {
	p, q := keyOf(0, 0), keyOf(0, 1)
	x := secretOf(0, 0)
	twice, among := only(p, p, q, p), only(p, zero, q, curve.Neg(p))
	alike := [][]api.Point{{p, q}, {p, q}}
	return []signed{
		{"one key, no text", api.Digest{}, nil, only(base), secret(0, one), "a40a4c4d91a385ae10131007aba9f7355ca449807663748b0f3958cbc02228f77fd587785852154575ed3611572708bc96e2e8bc3d83934ba735c1082d573cb5"},
		{"one key", seed, abc, only(base), secret(0, one), "18e5b7ee25ddc6ed8fb758b1c020a5d9a8211a2ffb700f1504a5a5b6a2d92ad17347213d3dd9dfc0f93bddcece02e9bd0aee3c08695d077bf3963e01272ca021"},
		{"one key, its secret over n", seed, abc, only(base), secret(0, moreOne), "18e5b7ee25ddc6ed8fb758b1c020a5d9a8211a2ffb700f1504a5a5b6a2d92ad17347213d3dd9dfc0f93bddcece02e9bd0aee3c08695d077bf3963e01272ca021"},
		{"Zero", seed, abc, only(zero), secret(0, none), "80d9b46c4a429f9c7ee736ec494dd68279d35b95e6e49fc456eb2800d189c0ec2e8170ddcd1b32569c1935a61bc2ef139858347f713a62d835a1978b48987347"},
		{"Zero, its secret n", seed, abc, only(zero), secret(0, order), "80d9b46c4a429f9c7ee736ec494dd68279d35b95e6e49fc456eb2800d189c0ec2e8170ddcd1b32569c1935a61bc2ef139858347f713a62d835a1978b48987347"},
		{"the secret n - 1", seed, abc, only(curve.Neg(base)), secret(0, lessOne), "a948d27d89d204734e38b13d785d960d685101d5f6293ec8a8b00023e3714dd400e7be14cc7566ca33cc9a72aac6481613b670b01e7292f6d7c50423b94ceac7"},
		{"three keys, the first", seed, abc, grid(3), known(0), "6f85d53d4a9eee4e899f81cc924e46097cf9bfedc4ed75c8ee6834fbbfecdff483a4a7fe547fcb8f46becd53de349570e910c8194823fad1b514c86853b28c314def3389f9de47e68e9b203e66354b15e489d0ce460fcedfdaeee9e66fa92ab0219a15c91948e185cbf87af4d5d06a6edfcd06b5f89abb635db4fa75e5773c7f"},
		{"three keys, the middle", seed, abc, grid(3), known(1), "a646a8564f06cb1fd802e2eba347792b37bf7e79bb055ba0dd9f4af8741a8878abafbf57902bd545eff43923ce0873773e750cb9ce69fbf9ff944eb4574143a2e31df4bed5b19e1ab98b38d15aea947f0c545c102a58ee390ed5a39c8a683e18219a15c91948e185cbf87af4d5d06a6edfcd06b5f89abb635db4fa75e5773c7f"},
		{"three keys, the last", seed, abc, grid(3), known(2), "956cd3137450e0f05cd5a207b272499fcb87ea84f27659c96762e2a857b41f7fabafbf57902bd545eff43923ce0873773e750cb9ce69fbf9ff944eb4574143a24def3389f9de47e68e9b203e66354b15e489d0ce460fcedfdaeee9e66fa92ab0b7b933ffef4a5b853281243c0f3d940d47696f7fc87f59d0beb037d6c79bdf0b"},
		{"three rings, a long text", ones, long, grid(1, 2, 4), known(0, 1, 3), "25d3b050add76daffffe119825bd2094bb9a5673b99adbb18211d54eea89e4b9"},
		{"three rings, no text", ones, nil, grid(4, 1, 2), known(2, 0, 0), "25e55c0d9246b6a33d45a15e149bfecb1fb0c9211554e5e5937c3a0e8b598108"},
		{"a key thrice, the second time", seed, abc, twice, secret(1, x), "c976d73d89db68b2565efd4e2d1340b8b3c01b4643496813d40eab740b78f849"},
		{"a key thrice, the last time", seed, abc, twice, secret(3, x), "56f24671d3242e75af2dbcce6c7f6a990449f87c2a04e1534c86020ccca06f1c"},
		{"two rings alike", seed, abc, alike, slices.Repeat(secret(0, x), 2), "31f116ac503b8aaec6474edce1e7bb95a409bd6dc715b9c1ae95874b357f3d97"},
		{"Zero among others", seed, abc, among, secret(1, none), "ac52461e46abbab39cfdc9e6488b2b80976cd772a29246f1e2d271fc65c4a702"},
		{"one beside Zero", seed, abc, among, secret(3, scalar.Neg(x)), "9b7616aaf7608dd9695fad38001957862533e788b196f31e737d153ff144f59f"},
		{"four of four", seed, counted(64), grid(4, 4, 4, 4), known(0, 1, 2, 3), "3abd06e25f9c567283b4e26863fd119d152dd12b10d981ae867f96f50290d895"},
		{"MaxRings of one key", seed, abc, grid(times(32, 1)...), known(times(32, 0)...), "60321fe8553ed4654183c0b3f4ece071b34435d4f4877dfbb24a7d85ae1b6756"},
		{"MaxRings of two keys", seed, abc, grid(times(32, 2)...), known(slices.Repeat([]int{0, 1}, 16)...), "c0d1d4d68d4819d43d2d95a2640425e92630ffe20cf2114359c5c94382812885"},
		{"MaxRing keys, the first", seed, abc, grid(64), known(0), "920284dd0facbca858857b8f102cba8914243e031c1eeb62228cd077bc25b1e4"},
		{"MaxRing keys, a middle one", seed, abc, grid(64), known(31), "c35eb92c157076c250205bb48f7051b6593453b073dfdd7516c1c979e4094ffe"},
		{"MaxRing keys, the last", seed, abc, grid(64), known(63), "9fd38f69f6d4c22acd3351001e6a4d5f98a94a6c42647aa4658da30907674e77"},
	}
}

// spread are 32 numbers below 64 that lie apart.
func spread() []int {
	l := make([]int, 32)
	for i := range l {
		l[i] = (i*37 + 5) % 64
	}
	return l
}

// most is as much as a signature may have.
func most() signed {
	return signed{"MaxRings of MaxRing keys", seed, abc, grid(times(32, 64)...), known(spread()...), "5eb733133ad49361316436c293c2ba07a18b43bdb26af9861a2d1c39cf0de734"}
}

func (c signed) check(t *testing.T, s api.RingSig) {
	t.Helper()
	b := written(s)
	digest := sha.Of(b)
	for _, got := range []string{hex.EncodeToString(b), hex.EncodeToString(digest[:])} {
		if got == c.want {
			return
		}
	}
	t.Errorf("P8.2: %s: Sign = %.300x, want %s", c.name, b, c.want)
}

// made is a signature of what may be signed.
func (c signed) made(t *testing.T) api.RingSig {
	t.Helper()
	s, code := ring.Sign(c.seed, c.text, c.rings, c.l)
	if code != api.OK {
		t.Fatalf("P8.2: %s: Sign: error %d", c.name, code)
	}
	return s
}

// below are secrets with numbers below n.
func below(l []api.Secret) []api.Secret {
	l = slices.Clone(l)
	for i := range l {
		l[i].X = scalar.Norm(l[i].X)
	}
	return l
}

func (c signed) opened(t *testing.T, s api.RingSig) {
	t.Helper()
	l, ok := ring.Open(c.seed, c.text, c.rings, s)
	if !ok || !slices.Equal(l, below(c.l)) {
		t.Errorf("P8.3, P8.6: %s: Open = %.300x, %v", c.name, l, ok)
	}
}

func TestSign(t *testing.T) {
	for _, c := range append(signatures(), most()) {
		s := c.made(t)
		c.check(t, s)
		if !ring.Verify(c.text, c.rings, s) {
			t.Errorf("P8.5: %s: Verify = false", c.name)
		}
		c.opened(t, s)
	}
}

// Signatures of other rings and places than those above are what the chapter says as well, told by the tests' own words.
func TestSignAsTold(t *testing.T) {
	for many := 1; many <= 5; many++ {
		for at := range many {
			for _, text := range [][]byte{nil, {0}, abc, counted(64), long} {
				rings := grid(many, 1, many, 2)
				c := signed{"a grid", sha.Of(text), text, rings, known(at, 0, many-1-at, at%2), ""}
				s := c.made(t)
				if want := c.told().made(); !reflect.DeepEqual(s, want) {
					t.Errorf("P8.2: Sign of %d keys, at %d, %.20x: %x, want %x", many, at, text, s, want)
				}
				if !ring.Verify(text, rings, s) {
					t.Errorf("P8.5: Verify of %d keys, at %d, %.20x = false", many, at, text)
				}
				c.opened(t, s)
			}
		}
	}
}

// shared is how many scalars of one signature stand in another one.
func shared(a, b api.RingSig) int {
	many := 0
	for _, k := range slices.Concat(a.S...) {
		if slices.Contains(slices.Concat(b.S...), k) {
			many++
		}
	}
	return many
}

// Whoever signs twice with one seed signs the same; of another seed, text or ring all is another, of another secret all but the placeholders.
func TestSignHangsOnAll(t *testing.T) {
	c := signed{"a grid", seed, abc, grid(2, 3), known(1, 1), ""}
	s := c.made(t)
	if !reflect.DeepEqual(s, c.made(t)) {
		t.Error("P8.2: the same is signed in two ways")
	}
	for _, o := range []struct {
		signed
		shared int
	}{
		{signed{"another seed", api.Digest{31: 1}, abc, c.rings, c.l, ""}, 0},
		{signed{"another text", seed, long, c.rings, c.l, ""}, 0},
		{signed{"another ring", seed, abc, grid(2, 2), c.l, ""}, 0},
		{signed{"another secret", seed, abc, c.rings, known(0, 1), ""}, 2},
	} {
		if got := o.made(t); got.First == s.First || shared(got, s) != o.shared {
			t.Errorf("P8.2: %s: Sign = %x, %d scalars of which are those of %x", o.name, got, shared(got, s), s)
		}
	}
}

// bad are points that are not valid.
func bad() []api.Point {
	next := base
	next.Y[0]++
	over := api.Point{X: api.Fe{0xfffffffefffffc30, all, all, all}} // p + 1
	if p, ok := curve.Lift(api.Key{31: 1}); ok {
		over.Y = p.Y // that of the point with the X 1
	}
	spoilt := base
	spoilt.Inf = true
	return []api.Point{{}, {X: api.Fe{1}, Inf: true}, {Y: api.Fe{1}, Inf: true}, spoilt, next, over, {X: base.Y, Y: base.X}}
}

func refused(t *testing.T, what string, rings [][]api.Point, l []api.Secret, want api.Errno) {
	t.Helper()
	for _, text := range [][]byte{nil, abc} {
		if s, code := ring.Sign(seed, text, rings, l); code != want || s.First != (api.Digest{}) || len(s.S) != 0 {
			t.Errorf("P8.2: %s: Sign = %x, error %d, want %d", what, s, code, want)
		}
	}
}

func TestSignRingForm(t *testing.T) {
	for _, l := range [][]api.Secret{nil, secret(0, one), secret(-1, one), known(0), known(times(33, 0)...), known(times(257, 0)...)} {
		refused(t, "no rings", nil, l, api.ErrRingForm)
		refused(t, "no rings", [][]api.Point{}, l, api.ErrRingForm)
		refused(t, "an empty ring", [][]api.Point{nil}, l, api.ErrRingForm)
		refused(t, "an empty ring", [][]api.Point{{}}, l, api.ErrRingForm)
		for _, many := range []int{65, 66, 256, 257, 320} {
			refused(t, "too many keys", only(slices.Repeat(grid(1)[0], many)...), l, api.ErrRingForm)
		}
		for _, many := range []int{33, 34, 256, 257, 288} {
			refused(t, "too many rings", grid(times(many, 1)...), l, api.ErrRingForm)
		}
	}
	for i := range 3 {
		rings := grid(2, 2, 2)
		rings[i] = nil
		refused(t, "an empty ring among others", rings, known(0, 0, 0), api.ErrRingForm)
		rings[i] = slices.Repeat(rings[(i+1)%3], 33)
		refused(t, "too many keys in one of three rings", rings, known(0, 0, 0), api.ErrRingForm)
	}
}

func TestSignBadPoints(t *testing.T) {
	for _, p := range bad() {
		refused(t, "a bad point", only(p), secret(0, none), api.ErrRingForm)
		for i := range 3 {
			for j := range 3 {
				rings := grid(3, 3, 3)
				rings[i][j] = p
				refused(t, "a bad point among others", rings, known(0, 1, 2), api.ErrRingForm)
				refused(t, "a bad point and no secrets", rings, nil, api.ErrRingForm)
			}
		}
	}
}

func TestSignSecrets(t *testing.T) {
	for _, c := range []struct {
		what  string
		rings [][]api.Point
		l     []api.Secret
	}{
		{"At 1 of one key", only(base), secret(1, one)},
		{"X 2 for Base", only(base), secret(0, scalar.Of(2))},
		{"X 0 for Base", only(base), secret(0, none)},
		{"X n for Base", only(base), secret(0, order)},
		{"X n - 1 for Base", only(base), secret(0, lessOne)},
		{"X 2^256 - 1 for Base", only(base), secret(0, highest)},
		{"X 1 for Zero", only(zero), secret(0, one)},
		{"no secret", only(base), nil},
		{"no secret, of an empty list", only(base), []api.Secret{}},
		{"two secrets", only(base), slices.Repeat(secret(0, one), 2)},
		{"a secret too much", only(base), append(secret(0, one), known(0, 0)[1])},
		{"At -1", only(base), secret(-1, one)},
		{"the least At", only(base), secret(math.MinInt, one)},
		{"the greatest At", only(base), secret(math.MaxInt, one)},
		{"At 256", only(base), secret(256, one)},
		{"At one too far", grid(3), secret(3, secretOf(0, 2))},
		{"At -1 of three", grid(3), secret(-1, secretOf(0, 2))},
		{"another key's X", grid(3), secret(1, secretOf(0, 2))},
		{"another ring's X", grid(2, 2), slices.Repeat(known(1), 2)},
		{"too few secrets", grid(2, 2), known(0)},
		{"too many secrets", grid(2, 2), known(0, 1, 0)},
		{"secrets in another order", grid(2, 2), []api.Secret{known(0, 0)[1], known(0, 0)[0]}},
		{"a wrong X in the last ring", grid(2, 2), append(known(0), api.Secret{At: 1, X: secretOf(1, 0)})},
		{"At outside of the last ring", grid(2, 1), append(known(0), api.Secret{At: 1, X: secretOf(1, 0)})},
		{"the opposite X", grid(2), secret(0, scalar.Neg(secretOf(0, 0)))},
	} {
		refused(t, c.what, c.rings, c.l, api.ErrRingSecret)
	}
}

// filled are the same lists with something behind their ends.
func filled(rings [][]api.Point) [][]api.Point {
	var l [][]api.Point
	for _, keys := range rings {
		l = append(l, append(slices.Clone(keys), keyOf(9, 9), keyOf(9, 8))[:len(keys)])
	}
	return append(l, nil, only(base)[0])[:len(l)]
}

// behind are lists with what stands behind their ends.
func behind(rings [][]api.Point) [][]api.Point {
	var l [][]api.Point
	for _, keys := range rings[:cap(rings)] {
		l = append(l, slices.Clone(keys[:cap(keys)]))
	}
	return l
}

func TestArgumentsAreLeft(t *testing.T) {
	whole := counted(50)
	rings, text, l := filled(grid(2, 3)), whole[:20], append(known(1, 1), api.Secret{At: 7})
	was := behind(rings)
	c := signed{"a grid", seed, text, rings, l[:2], ""}
	s := c.made(t)
	copied := api.RingSig{First: s.First, S: [][]api.Scalar{slices.Clone(s.S[0]), slices.Clone(s.S[1])}}
	ring.Verify(text, rings, s)
	c.opened(t, s)
	b := ring.Encode(s)
	if !slices.Equal(whole, counted(50)) || !reflect.DeepEqual(was, behind(rings)) || !slices.Equal(l, append(known(1, 1), api.Secret{At: 7})) || !reflect.DeepEqual(s, copied) {
		t.Error("R5: an argument was changed")
	}
	text[0]++
	rings[0][1], rings[1][0] = base, base
	l[0].X, l[1].At = none, 9
	if !reflect.DeepEqual(s, copied) || !slices.Equal(b, written(copied)) {
		t.Error("R5: an argument was kept")
	}
	s.First, s.S[0][0] = api.Digest{}, none
	if !slices.Equal(b, written(copied)) {
		t.Error("R5: Encode kept a signature")
	}
}

// overwritten fills a list up to its capacity.
func overwritten[T any](l []T, with T) {
	l = l[:cap(l)]
	for i := range l {
		l[i] = with
	}
}

func TestResultsAreNew(t *testing.T) {
	c := signed{"a grid", seed, abc, grid(2, 3, 1), known(1, 1, 0), ""}
	want := c.told().made()
	for i := range 3 {
		s := c.made(t)
		overwritten(s.S[i], highest)
		s.S[i] = want.S[i]
		if !reflect.DeepEqual(s, want) {
			t.Errorf("R5: row %d of Sign lies in another one", i)
		}
		overwritten(s.S, nil)
		if !reflect.DeepEqual(c.made(t), want) {
			t.Error("R5: Sign keeps its rows")
		}
	}
	for range 2 {
		l, ok := ring.Open(seed, abc, c.rings, want)
		if !ok || !slices.Equal(l, c.l) {
			t.Errorf("P8.3: Open = %x, %v", l, ok)
		}
		overwritten(l, api.Secret{At: 5})
	}
}
