package surject_test

import (
	"encoding/hex"
	"math"
	"slices"
	"testing"

	"tollhouse/api"
	"tollhouse/curve"
	"tollhouse/ring"
	"tollhouse/scalar"
	"tollhouse/sha"
	"tollhouse/surject"
)

const all = math.MaxUint64 // a word of ones

// The lower words of n; above them stand all - 1, and all.
const (
	n0 = 0xbfd25e8cd0364141
	n1 = 0xbaaedce6af48a03b
)

var (
	none    = api.Scalar{}
	one     = api.Scalar{1}
	lessOne = api.Scalar{n0 - 1, n1, all - 1, all}
	order   = api.Scalar{n0, n1, all - 1, all}
	moreOne = api.Scalar{n0 + 1, n1, all - 1, all}
	highest = api.Scalar{all, all, all, all}
	firstK  = api.Scalar{0x89137f8c94d53e8a, 0x887bcdf4562a07b2, 0x46537b8b31d6962a, 0x6efa404701ae2518}
	secondK = api.Scalar{0x8bdcd69e321a41f2, 0xe8aafcd7fdb2b6f1, 0x0ea7688cf8c4ff85, 0xa3420f3cf8995d84}
)

var (
	noSeed = api.Digest{}
	seed   = api.Digest(counted(32))
	ones   = api.Digest(slices.Repeat([]byte{255}, 32))
)

var (
	base = curve.Base()
	zero = api.Point{Inf: true}
)

// counted are so many bytes that count up.
func counted(many int) []byte {
	b := make([]byte, many)
	for i := range b {
		b[i] = byte(i)
	}
	return b
}

// hidden is the point of the asset with the name i, blinded; the assets are all different.
func hidden(i int) api.Point {
	k := scalar.Reduce(sha.Of([]byte{byte(i)}))
	return plus(curve.Generator(api.Digest{byte(i)}), k)
}

// list are so many assets.
func list(many int) []api.Point {
	var l []api.Point
	for i := range many {
		l = append(l, hidden(i))
	}
	return l
}

// plus is a point plus so many times Base.
func plus(p api.Point, k api.Scalar) api.Point { return curve.Add(p, curve.Mul(k, base)) }

// bad are points that are not valid.
func bad() []api.Point {
	next := base
	next.Y[0]++
	over := api.Point{X: api.Fe{0xfffffffefffffc30, all, all, all}} // p + 1
	if p, ok := curve.Lift(api.Key{31: 1}); ok {
		over.Y = p.Y // that of the point with the X 1
	}
	spoilt := base
	spoilt.Inf = true
	return []api.Point{{}, {X: api.Fe{1}, Inf: true}, {Y: api.Fe{1}, Inf: true}, spoilt, next, over, {X: base.Y, Y: base.X}}
}

// proved is what a proof is asked for.
type proved struct {
	what  string
	seed  api.Digest
	from  []api.Point
	asset api.Point
	at    int
	diff  api.Scalar
}

// of is what may be proved.
func of(what string, seed api.Digest, from []api.Point, at int, diff api.Scalar) proved {
	return proved{what, seed, from, plus(from[at], diff), at, diff}
}

// made is a proof where there is one.
func (c proved) made(t *testing.T) []byte {
	t.Helper()
	p, code := surject.Prove(c.seed, c.from, c.asset, c.at, c.diff)
	if code != api.OK {
		t.Fatalf("P10.1: %s: Prove: error %d", c.what, code)
	}
	if !surject.Verify(c.from, c.asset, p) {
		t.Errorf("P10.2, P10.3: %s: Verify = false", c.what)
	}
	return p
}

// keys are those of the ring.
func (c proved) keys() []api.Point {
	var l []api.Point
	for _, p := range c.from {
		l = append(l, curve.Sum(slices.Values([]api.Point{curve.Neg(p), c.asset})))
	}
	return l
}

// text is what is signed.
func (c proved) text() []byte {
	b := curve.Encode(c.asset)
	return b[:]
}

// told is what the chapter says of the proof.
func (c proved) told(t *testing.T) []byte {
	t.Helper()
	s, code := ring.Sign(c.seed, c.text(), [][]api.Point{c.keys()}, []api.Secret{{At: c.at, X: c.diff}})
	if code != api.OK {
		t.Fatalf("%s: Sign: error %d", c.what, code)
	}
	return slices.Concat([]byte{byte(len(c.from))}, ring.Encode(s))
}

type known struct {
	proved
	want string // of the proof; where it is long, the SHA-256 digest of it
}

// proofs were worked out by another program.
func proofs() []known {
	only, h, many := []api.Point{base}, hidden(0), list(64)
	alike := []api.Point{h, h, hidden(1), h}
	zeros := []api.Point{h, zero, hidden(1), zero}
	return []known{
		{of("Base, no seed", noSeed, only, 0, none), "01185488df85ff827c95d1a52e0c6c8be0d2997323258eccb8356795af4717bdd4dd6b2d78840cf33c6dda80335e35c9689df5df8f87f44d94a32228089aed8850"},
		{of("Base, diff 0", seed, only, 0, none), "01fba704abf27c3bba17faefc34257bf819e9f569335dbab083fd6a1d74e657324383cabfbff3a9a1a4865dddf1b84a936e4d03103f593b78eee4cb2b95ffab137"},
		{of("Base, diff n", seed, only, 0, order), "01fba704abf27c3bba17faefc34257bf819e9f569335dbab083fd6a1d74e657324383cabfbff3a9a1a4865dddf1b84a936e4d03103f593b78eee4cb2b95ffab137"},
		{of("Base, diff 1", seed, only, 0, one), "01b4fd9ac5067237ee029abb9f0b52eb1d13539dfce35bcda2c783516978add2333bf1177143c746df65a5c410667bae1ab382087438107a039bfe47831ff8e83c"},
		{of("Base, diff n + 1", seed, only, 0, moreOne), "01b4fd9ac5067237ee029abb9f0b52eb1d13539dfce35bcda2c783516978add2333bf1177143c746df65a5c410667bae1ab382087438107a039bfe47831ff8e83c"},
		{of("Base, diff n - 1", seed, only, 0, lessOne), "01bc8194cc58f303b804b6c2eb8fdd5e078b57968bd121ceaa998f32117f516e8bceadc14150f2db4f8072d754d15c861a8e67f163914ea529b494a3d285604cdf"},
		{of("Zero, diff 0", seed, []api.Point{zero}, 0, none), "01c48d992719c8250a6e5b36e6ac938f0a38e35d2a40ed7a25356677b7aa729398188d1a2e7dd8643a03f1f51e210987c8cd132c5dd1e305f4ca9e8e0cb4e58e2c"},
		{of("Zero, diff 1", seed, []api.Point{zero}, 0, one), "01c7310d745a6f9ae556b587653e7d646d75e4d4b5aead0a6abcc748d8fdaaa6fe69078ee36c97363ff20fb8f3c8edb1939ee973cf4673ce7a636f8058d87f2c58"},
		{of("one asset", ones, many[:1], 0, firstK), "0102b545b4b019c997e6cb6abd7d0acc8c3fc7ba5319d204a209501251815d86bccf28dffac3767448b2bad31a8679bbb6920ac2857df67d2d152341aa8c56f11b"},
		{of("one asset, diff 2^256 - 1", ones, many[:1], 0, highest), "011bbf425854d37ff58b4621879caf4603c697bd2c498b4662ab6a77a84db45e46eb56c853f7edaf28c1ff13d923d599f7d1b6f99baa34a080d875876e5f0193ce"},
		{of("two assets, the first", seed, many[:2], 0, secondK), "0294f639a72fd6bb9eea16227bd8af86573fc6b929e90d904e2c21e541bcbc477bb4a8cdb516b761136854a0de22d1a3d4f9b65a621b7e6ab3c9141f19598a11d08c8ad897a54424f678500280684b43fec142ab00ec67ab28e03f099f33b25978"},
		{of("two assets, the last", seed, many[:2], 1, secondK), "02f0d0b6e8891edc614a038854846b69586bf2dfdfe62d5a0babf5d91e228bb84e853420b153d6b40ffed1064250d42a8ce4118c1dc9099c265cc682f38f8fa0eb50e0902bd53be4662a9b8c09ea66a60907b018c346ee3053d33e2e2e10719422"},
		{of("three assets, the first", seed, many[:3], 0, firstK), "03daa8a93300e387894ceade84864e01c1a6addde5f5e37c3b8e18749c18de3c8dc269d7e9e7955d87bfa3e7aa459d8ae79551ddb25f31e91c112d74f7a19ea64eed1bb51b6e43c8a248eef62aed0b78712578f7396690c75acb0e1c584c8b7fd052e9b553f9315b25373fd499727d80306fbae013f383187987c3e8f61c3f7b0a"},
		{of("three assets, the middle", seed, many[:3], 1, firstK), "031d7ae450da24709b1ceb3b95c149337dc49031f4b1e45ec11f2bfd67c067a7edef43d35d0a97a9202fd8e3081b8cfb7e36e48ef93cd273b70ae4aa3f4728739f11565e7cac938e247d2d77daa8df965a4d12da0d3dbf71778964dc69a7f34ca4bebc402c12d2ec514827e0b180339aa736cd3b13c992ae0cd4d576ba9ff41e8a"},
		{of("three assets, the last", seed, many[:3], 2, firstK), "036ab04621b2294fa1328ce8dd2b86065e45e78c66a12280414372cc72a4e5a7d7d114cf298a7a539c9a2753180d39c88d563f33fae5d3af681babb1d035f879dbd144e5d0552360272519af39bc36d15b904dfb89a7e8f29a1b98c8a771f4297d04ebdec88abfc01297a284f4011288941d1b644eb1f01984cc832485438a589a"},
		{of("three assets, diff 0", noSeed, many[:3], 1, none), "03c40913840bd6d3ffd60b3ceac1ceb81b529565e95ece3485a70319e2175ecabfb4c2f9daca10930b65b6ba19c0b28631a7f0274acfd4f2db66cd416c3a057e1432019276d5c5c3dcdab0748282e68e5804a2631dedd5969ba513435f7df8da679fc60376d3abe2162a104e1692330175fc01b2ba35793a131d67e86256fd8110"},
		{of("five assets", ones, many[:5], 3, lessOne), "a56f90a1000a466287090d0352e7cf2e1c4df7e5b6bba2b1a63e416aeee52335"},
		{of("one thrice, the first time", seed, alike, 0, secondK), "04659900829dbfb158ccfa647f6016abfd0e127c5444459c7ef2b2cbe579c31c"},
		{of("one thrice, the second time", seed, alike, 1, secondK), "b4c4668565bf3119bf6cec383257268550551a2a12cf36c239bd73f0f1fe402b"},
		{of("one thrice, the last time", seed, alike, 3, secondK), "d762e85344a36bce95e3c99796bae354a87195c1bc7010330461937042772a0a"},
		{of("one thrice, diff 0", seed, alike, 3, none), "fb64170831174800834b70bb23157e08cab6adff9ceb08fbe758d612dedb275a"},
		{of("all alike", seed, slices.Repeat([]api.Point{hidden(5)}, 4), 2, one), "76dc328feae5a8a48390b3ed29d907802e0815f014d7783e4152689b6e63f2c8"},
		{of("Zero among others", seed, zeros, 1, firstK), "486280902219275a876e883829306dd0dd1bbdb3e788d5cbbabdda2757325dc5"},
		{of("Zero among others, diff 0", seed, zeros, 3, none), "69dbb15f4806766b9e9710b306a2d079389503639c79423390fab35b8a2ab8ff"},
		{of("one beside Zero", seed, zeros, 2, firstK), "f0cf3f5cd1cbcb5124ad29017deddb93cf222df0c726a94db560c01ee2aa7580"},
		{of("16 assets", noSeed, many[:16], 9, secondK), "848f6ffd0f3e39a2c1a11754d87f13a34c4cac0cda59674b6656eb79aed2148b"},
		{of("63 assets, the last", ones, many[:63], 62, firstK), "2311a97a672835ad77fe2043fdaf78bfb519ba9d6ef342d18617234340e469aa"},
		{of("64 assets, the first", seed, many, 0, firstK), "8f3df781e30484382de7c814c92a5808dee5792f0ba466d08c34730c20031a99"},
		{of("64 assets, the second", seed, many, 1, firstK), "4387172771788216d1383a9be97d2da50ab1285988b3b8bf44c298c1c696848d"},
		{of("64 assets, one in the middle", seed, many, 31, firstK), "e898407f5eccb17969012c04097fa3619e0d50890eecfcaa931c2f719183cc58"},
		{of("64 assets, the next one", seed, many, 32, firstK), "15c372f02c87a83be30d5b83af6e3addc33f6f7fc7fdbdc5b1dcdea260aabc07"},
		{of("64 assets, the last but one", seed, many, 62, firstK), "005f61a281becb657ac7016801521153ac97cb6f2be5b841e1e0c9f16f1814be"},
		{of("64 assets, the last", seed, many, 63, firstK), "822391c6f02ebed5bad0e87d979d7c1ef803f459038caf66dbad30bc10359111"},
		{of("64 assets, diff 2^256 - 1", ones, many, 40, highest), "8a14076965f6011d0caac316adbaaa823881be725c74993249363b1c43a848b2"},
	}
}

func TestProve(t *testing.T) {
	t.Parallel()
	for _, c := range proofs() {
		p := c.made(t)
		digest := sha.Of(p)
		if hex.EncodeToString(p) != c.want && hex.EncodeToString(digest[:]) != c.want {
			t.Errorf("P10.1: %s: Prove = %.200x, want %s", c.what, p, c.want)
		}
		if len(p) != 33+32*len(c.from) || int(p[0]) != len(c.from) {
			t.Errorf("P10.1: %s: %d bytes, the first one %d", c.what, len(p), p[0])
		}
		s, ok := ring.Decode(p[1:], []int{len(c.from)})
		if !ok || !ring.Verify(c.text(), [][]api.Point{c.keys()}, s) {
			t.Errorf("P10.1: %s: no signature of the text by the keys", c.what)
		}
	}
}

// Proofs of other lists, places and differences than those above are what the chapter says as well, told by the tests' own words.
func TestProveAsTold(t *testing.T) {
	t.Parallel()
	diffs := []api.Scalar{none, one, lessOne, order, moreOne, highest, firstK, secondK}
	for many := 1; many <= 7; many++ {
		for at := range many {
			for i, diff := range diffs {
				l := list(many)
				l[(at+i)%many] = l[at] // often two that are alike
				c := of("some assets", api.Digest{byte(many), byte(at), byte(i)}, l, at, diff)
				if p, want := c.made(t), c.told(t); !slices.Equal(p, want) {
					t.Errorf("P10.1: Prove of %d, at %d, diff %x = %x, want %x", many, at, diff, p, want)
				}
			}
		}
	}
	for many := 1; many <= api.MaxRing; many++ {
		c := of("so many assets", seed, list(many), many*7%many, secondK)
		if p := c.made(t); !slices.Equal(p, c.told(t)) || int(p[0]) != many {
			t.Errorf("P10.1: Prove of %d = %.200x", many, p)
		}
	}
}

// Assets may be each other's multiples of Base, so that a proof can be made at any of them; it hides at which one only as long as its seed is hidden.
func TestProveAtEach(t *testing.T) {
	t.Parallel()
	p := hidden(7)
	from := []api.Point{p, plus(p, one), plus(p, lessOne), plus(p, firstK)}
	asset := plus(p, secondK)
	for at, diff := range []api.Scalar{secondK, scalar.Sub(secondK, one), scalar.Add(secondK, one), scalar.Sub(secondK, firstK)} {
		c := proved{"multiples of Base", seed, from, asset, at, diff}
		code := c.made(t)
		s, _ := ring.Decode(code[1:], []int{4})
		l, ok := ring.Open(seed, c.text(), [][]api.Point{c.keys()}, s)
		if want := []api.Secret{{At: at, X: diff}}; !ok || !slices.Equal(l, want) {
			t.Errorf("P10.1: Prove at %d: the secrets are %x, %v, want %x", at, l, ok, want)
		}
	}
}

// Whoever proves the same twice gets the same; of another seed, list, asset or place, the proof is another.
func TestProveHangsOnAll(t *testing.T) {
	from := append(list(3), hidden(0))
	c := of("some assets", seed, from, 0, firstK)
	p := c.made(t)
	if !slices.Equal(p, c.made(t)) {
		t.Error("P10.1: the same is proved in two ways")
	}
	other := slices.Clone(from)
	other[2] = base
	for _, o := range []proved{
		of("another seed", api.Digest{31: 1}, from, 0, firstK),
		of("another list", seed, other, 0, firstK),
		of("another order", seed, []api.Point{from[0], from[2], from[1], from[3]}, 0, firstK),
		of("a shorter list", seed, from[:3], 0, firstK),
		of("another asset", seed, from, 0, secondK),
		of("another place", seed, from, 3, firstK),
	} {
		if got := o.made(t); slices.Equal(got[1:33], p[1:33]) || slices.Equal(got[33:65], p[33:65]) {
			t.Errorf("P10.1: %s: Prove = %x, as before", o.what, got)
		}
	}
}

// A point that is not valid is treated as Zero, wherever it stands.
func TestProveBadPoints(t *testing.T) {
	t.Parallel()
	for at := range 3 {
		for i := range 3 {
			from := list(3)
			from[i] = zero
			c := of("Zero in the list", seed, from, at, firstK)
			want := c.made(t)
			for _, p := range bad() {
				c.from[i] = p
				if got := c.made(t); !slices.Equal(got, want) {
					t.Errorf("P10.1: %v at %d, proved at %d: Prove = %x, want %x", p, i, at, got, want)
				}
			}
		}
		from := list(3)
		from[at] = curve.Neg(curve.Mul(firstK, base))
		c := of("the asset Zero", seed, from, at, firstK)
		want := c.made(t)
		for _, p := range bad() {
			c.asset = p
			if got := c.made(t); !slices.Equal(got, want) {
				t.Errorf("P10.1: the asset %v, proved at %d: Prove = %x, want %x", p, at, got, want)
			}
		}
	}
	want := of("nothing but Zero", seed, []api.Point{zero, zero}, 1, none).made(t)
	for i, p := range bad() {
		q := bad()[(i+1)%len(bad())]
		c := proved{"nothing but bad points", seed, []api.Point{p, q}, q, 1, none}
		if got := c.made(t); !slices.Equal(got, want) {
			t.Errorf("P10.1: %v, %v: Prove = %x, want %x", p, q, got, want)
		}
	}
}

func (c proved) refused(t *testing.T, want api.Errno) {
	t.Helper()
	for _, s := range []api.Digest{noSeed, seed} {
		if p, code := surject.Prove(s, c.from, c.asset, c.at, c.diff); code != want || len(p) != 0 {
			t.Errorf("P10.1: %s: Prove among %d at %d = %x, error %d, want %d", c.what, len(c.from), c.at, p, code, want)
		}
	}
}

// What else is wrong is not asked for where there are too few assets, or too many.
func TestProveMany(t *testing.T) {
	for _, many := range []int{0, 65, 66, 127, 128, 129, 255, 256, 257, 258, 320, 321, 1<<16 + 1} {
		from := slices.Repeat([]api.Point{hidden(0)}, many)
		for _, at := range []int{0, 1, 63, 64, many - 1, many, many + 1, -1, math.MinInt, math.MaxInt} {
			proved{"a right diff", seed, from, plus(hidden(0), firstK), at, firstK}.refused(t, api.ErrSurjectMany)
			proved{"a wrong diff", seed, from, hidden(0), at, firstK}.refused(t, api.ErrSurjectMany)
			proved{"a bad point", seed, from, api.Point{}, at, none}.refused(t, api.ErrSurjectMany)
		}
	}
	proved{"an empty list", seed, []api.Point{}, base, 0, none}.refused(t, api.ErrSurjectMany)
	proved{"an empty list with room", seed, list(2)[:0], hidden(0), 0, none}.refused(t, api.ErrSurjectMany)
	proved{"too many bad points", seed, make([]api.Point, 65), zero, 0, none}.refused(t, api.ErrSurjectMany)
}

func TestProveIndex(t *testing.T) {
	t.Parallel()
	for _, many := range []int{1, 2, 3, 63, 64} {
		from := slices.Repeat([]api.Point{base}, many)
		for _, at := range []int{-1, -2, -many, -256, math.MinInt, math.MinInt + 1, many, many + 1, 65, 256, 256 - many, 257, 1 << 32, 1<<32 + 1, 1 << 62, math.MaxInt} {
			proved{"a right diff", seed, from, plus(base, firstK), at, firstK}.refused(t, api.ErrSurjectNone)
			proved{"a diff 0", seed, from, base, at, none}.refused(t, api.ErrSurjectNone)
			proved{"a wrong diff", seed, from, base, at, one}.refused(t, api.ErrSurjectNone)
		}
	}
	// The element behind the end of the list isn't one of it.
	whole := list(3)
	proved{"behind the end", seed, whole[:2], plus(whole[2], firstK), 2, firstK}.refused(t, api.ErrSurjectNone)
}

func TestProveDiff(t *testing.T) {
	t.Parallel()
	for _, many := range []int{1, 2, 5, 64} {
		from := list(many)
		for _, at := range []int{0, many / 2, many - 1} {
			for _, diff := range []api.Scalar{none, one, lessOne, firstK, highest} {
				asset := plus(from[at], diff)
				for _, k := range []api.Scalar{none, one, lessOne, order, moreOne, highest, secondK, scalar.Neg(diff), scalar.Add(diff, one), scalar.Sub(diff, one)} {
					if scalar.Norm(k) != scalar.Norm(diff) {
						proved{"another diff", seed, from, asset, at, k}.refused(t, api.ErrSurjectNone)
					}
				}
				if many > 1 {
					proved{"the diff of another place", seed, from, asset, (at + 1) % many, diff}.refused(t, api.ErrSurjectNone)
				}
				if diff != none {
					proved{"the opposite asset", seed, from, curve.Neg(asset), at, diff}.refused(t, api.ErrSurjectNone)
					proved{"the asset and the element changed for one another", seed, slices.Repeat([]api.Point{asset}, many), from[at], at, diff}.refused(t, api.ErrSurjectNone)
				}
			}
		}
	}
	for _, p := range append(bad(), zero) {
		proved{"a bad asset", seed, []api.Point{base}, p, 0, none}.refused(t, api.ErrSurjectNone)
		proved{"a bad element", seed, []api.Point{p}, base, 0, none}.refused(t, api.ErrSurjectNone)
		proved{"an asset that counts as Zero", seed, []api.Point{p}, p, 0, one}.refused(t, api.ErrSurjectNone)
	}
}

func TestExamples(t *testing.T) {
	proved{"no points", seed, nil, base, 0, none}.refused(t, api.ErrSurjectMany)
	proved{"65 points", seed, slices.Repeat([]api.Point{base}, 65), base, 0, none}.refused(t, api.ErrSurjectMany)
	c := proved{"Base among Base", seed, []api.Point{base}, base, 0, none}
	if p := c.made(t); len(p) != 65 || !slices.Equal(p, c.told(t)) {
		t.Errorf("P10.1: %s: Prove = %x", c.what, p)
	}
	proved{"at 1", seed, []api.Point{base}, base, 1, none}.refused(t, api.ErrSurjectNone)
	proved{"diff 1", seed, []api.Point{base}, base, 0, one}.refused(t, api.ErrSurjectNone)
}

// overwritten fills a list up to its capacity.
func overwritten(b []byte) {
	b = b[:cap(b)]
	for i := range b {
		b[i] = 0xee
	}
}

func TestMemory(t *testing.T) {
	for _, many := range []int{1, 3, 62} {
		whole := list(many + 2)
		was := slices.Clone(whole)
		c := of("some assets, with others behind them", seed, whole[:many], many-1, firstK)
		p := c.made(t)
		want := slices.Clone(p)
		long := append(slices.Clone(p), counted(40)...)
		if !surject.Verify(c.from, c.asset, long[:len(p)]) || !slices.Equal(long[:len(p)], want) || !slices.Equal(long[len(p):], counted(40)) {
			t.Error("R5: Verify changed a proof")
		}
		surject.Prove(seed, whole[:many], c.asset, -1, firstK)
		surject.Verify(whole[:many], base, p)
		if !slices.Equal(whole, was) {
			t.Error("R5: a list of points was changed")
		}
		q := c.made(t)
		overwritten(p)
		if !slices.Equal(q, want) || !slices.Equal(c.made(t), want) {
			t.Error("R5: proofs share memory")
		}
		whole[0] = base
		if !slices.Equal(q, want) || !surject.Verify(was[:many], c.asset, q) {
			t.Error("R5: an argument was kept")
		}
	}
}
