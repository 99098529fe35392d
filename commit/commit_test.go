package commit_test

import (
	"bytes"
	"encoding/hex"
	"fmt"
	"math"
	"slices"
	"testing"

	"tollhouse/api"
	"tollhouse/commit"
	"tollhouse/curve"
	"tollhouse/scalar"
)

const all = math.MaxUint64 // a word of ones

// The lower words of n; above them stand all - 1, and all.
const (
	n0 = 0xbfd25e8cd0364141
	n1 = 0xbaaedce6af48a03b
)

// p0 is the lowest word of p, above which all ones stand.
const p0 = 0xfffffffefffffc2f

var (
	none    = api.Scalar{}
	one     = api.Scalar{1}
	two     = api.Scalar{2}
	lessOne = api.Scalar{n0 - 1, n1, all - 1, all}
	lessTwo = api.Scalar{n0 - 2, n1, all - 1, all}
	order   = api.Scalar{n0, n1, all - 1, all}
	moreOne = api.Scalar{n0 + 1, n1, all - 1, all}
	highest = api.Scalar{all, all, all, all}
	firstK  = api.Scalar{0x89137f8c94d53e8a, 0x887bcdf4562a07b2, 0x46537b8b31d6962a, 0x6efa404701ae2518}
	secondK = api.Scalar{0x8bdcd69e321a41f2, 0xe8aafcd7fdb2b6f1, 0x0ea7688cf8c4ff85, 0xa3420f3cf8995d84}
)

// The names of four assets.
var (
	noName = api.Digest{}
	peg    = counted()
	gold   = api.Digest(bytes.Repeat([]byte{255}, 32))
	last   = api.Digest{31: 1}
)

var (
	zero = api.Point{Inf: true}
	base = curve.Base()
)

// counted are bytes that count up.
func counted() api.Digest {
	var d api.Digest
	for i := range d {
		d[i] = byte(i)
	}
	return d
}

// show is a point as it is told of.
func show(p api.Point) string { return fmt.Sprintf("(%x, %x, %t)", p.X, p.Y, p.Inf) }

// invalid are points that are not valid; some of them are at infinity, some have numbers that are equal to those of a valid point modulo p.
func invalid() []api.Point {
	l := []api.Point{
		{},
		{X: base.X, Y: base.Y, Inf: true},
		{X: base.X},
		{Y: base.Y},
		{X: base.X, Y: curve.Generator(peg).Y},
		{X: base.Y, Y: base.X},
		{X: api.Fe{1}, Y: api.Fe{1}},
		{X: api.Fe{p0, all, all, all}, Y: api.Fe{p0, all, all, all}},
		{X: api.Fe{p0, all, all, all}, Y: api.Fe{p0, all, all, all}, Inf: true},
		{X: api.Fe{all, all, all, all}, Y: api.Fe{all, all, all, all}},
		{X: api.Fe{p0 + 1, all, all, all}, Y: lowX().Y},
	}
	for i := range 4 {
		x, y := api.Point{Inf: true}, api.Point{Inf: true}
		x.X[i], y.Y[i] = 1, 1<<63
		l = append(l, x, y)
	}
	return l
}

// lowX is the point of the X 1.
func lowX() api.Point {
	p, ok := curve.Lift(api.Key{31: 1})
	if !ok {
		panic("no point")
	}
	return p
}

// level is a point's multiple that has the same Y, and another X.
func level(p api.Point) api.Point {
	q := curve.Mul(api.Scalar{0xdf02967c1b23bd72, 0x122e22ea20816678, 0xa5261c028812645a, 0x5363ad4cc05c30e0}, p)
	if q.Y != p.Y || q.X == p.X {
		panic("another Y")
	}
	return q
}

// hiding are points that are valid and not Zero.
func hiding() []api.Point {
	return []api.Point{base, curve.Neg(base), lowX(), curve.Generator(peg), curve.Neg(curve.Generator(noName)), commit.Asset(peg, firstK), commit.Value(5, commit.Asset(gold, secondK), firstK)}
}

// check fails where a result is not the point of an encoding.
func check(t *testing.T, what string, got api.Point, code string) {
	t.Helper()
	want, err := hex.DecodeString(code)
	if err != nil {
		t.Fatal(err)
	}
	if b := curve.Encode(got); !bytes.Equal(b[:], want) || !curve.Right(got) {
		t.Errorf("%s = %s, want %s", what, show(got), code)
	}
}

// same fails where a result is not a point.
func same(t *testing.T, what string, got, want api.Point) {
	t.Helper()
	if got != want {
		t.Errorf("%s = %s, want %s", what, show(got), show(want))
	}
}

type asset struct {
	id    api.Digest
	blind api.Scalar
	code  string
}

// assets were worked out by another program.
func assets() []asset {
	return []asset{
		{noName, none, "02d1bac91453d40af5e6214622e4fa65f5dade11ce18dbd2a4388c12898947e881"},
		{noName, one, "036f2c09776eb8ad77fba22f48cedc0b7d93c534b0141d58686d9d7ba1e78a878f"},
		{noName, lessOne, "033cc30876087f5de6dbc3953f1eb9eb82c3d1f3e203adfb29c3481dbfc11c57b8"},
		{noName, secondK, "0371eddbe8bfb69ee5c4434ee2324990850457c4229423161ecf537b62a2c8dada"},
		{peg, none, "02eaf52559ddf6da1258e307266ff6cfe1931bf6a6600984ca991e2c33d6681e17"},
		{peg, one, "02c53ec96eab3097375ab76d27e638acb71c2eca9235f9089bb59c4bf011e2a84b"},
		{peg, two, "03064aaadfeb613d3b02c7f23290a34884aea48b08c8daaa1e77bc888d26121c2d"},
		{peg, lessOne, "034a21b8b97053f707462c684e6a337be381d79dafc21648e618fcc9bdc8c674f1"},
		{peg, order, "02eaf52559ddf6da1258e307266ff6cfe1931bf6a6600984ca991e2c33d6681e17"},
		{peg, moreOne, "02c53ec96eab3097375ab76d27e638acb71c2eca9235f9089bb59c4bf011e2a84b"},
		{peg, highest, "02867da336153a7607dd1ce80a3fe27e59802d9367fc434e4f2e2b7bc0d6cd8971"},
		{peg, firstK, "02c2539dbdf23f234b6cfa8f0c4fbbfbbc0ebd66d203e5f89023794613578337e1"},
		{peg, secondK, "02a5a66fdc7f37996294b69d6a222ad0b5fa303a2c9efa4f1cfbde15f9a904164a"},
		{gold, none, "028e0be463efb719c4153fb0c084fcbeb61575810a9bd320163d78c09a2a1bc481"},
		{gold, one, "02126d6a082d4ec1b28135b990f8cefd247b91972cae300fab35f35a17865ec6fa"},
		{gold, order, "028e0be463efb719c4153fb0c084fcbeb61575810a9bd320163d78c09a2a1bc481"},
		{gold, highest, "03ec93a7c515af1ec3e04a467498c7bdb784318d6e3ff56d057c9400e6c138423e"},
		{gold, firstK, "022cc0f85e6aaeba25fa00c23215b06c42d3449e9adb90b3cb8b94e9f0058254b4"},
		{last, none, "024e891b04906b73fcb2f9a75ebb7558c7c53f332bb454d36ad3b9e2f9b56d5707"},
		{last, lessOne, "034684b243ce31d840b2f2fee95ebd6f98d5d8585eb0695c4a28064711916aa68d"},
		{last, firstK, "030c79fc9bbc3de42b983f5e76d6839382f8d1c9e015c0edbca3c07a7e07155cb6"},
	}
}

type value struct {
	value uint64
	id    api.Digest
	tag   api.Scalar
	blind api.Scalar
	code  string
}

// values were worked out by another program, of assets that are blinded by tag.
func values() []value {
	return []value{
		{0, peg, none, none, "000000000000000000000000000000000000000000000000000000000000000000"},
		{0, peg, none, order, "000000000000000000000000000000000000000000000000000000000000000000"},
		{0, peg, none, one, "0279be667ef9dcbbac55a06295ce870b07029bfcdb2dce28d959f2815b16f81798"},
		{0, gold, firstK, lessOne, "0379be667ef9dcbbac55a06295ce870b07029bfcdb2dce28d959f2815b16f81798"},
		{0, gold, firstK, secondK, "03efad9b553ec94f6121941b32d490be0bf87d53c8c1d7dbd2493a970d30a5f88e"},
		{1, peg, none, none, "02eaf52559ddf6da1258e307266ff6cfe1931bf6a6600984ca991e2c33d6681e17"},
		{1, peg, none, one, "02c53ec96eab3097375ab76d27e638acb71c2eca9235f9089bb59c4bf011e2a84b"},
		{1, peg, firstK, none, "02c2539dbdf23f234b6cfa8f0c4fbbfbbc0ebd66d203e5f89023794613578337e1"},
		{1, gold, firstK, lessOne, "039973180edd1d7ec38ed69b36161b4509a93053810c64fce4fd4b9e52756e6d85"},
		{1, gold, secondK, highest, "03a1c508254e4d95be042b6b10308322a49db628f791e28c9fa615b952aa832772"},
		{2, peg, none, none, "023d788971c80bdf57a871a40e53db8490b9c9b379c17c989d0a9860be1742c75d"},
		{2, gold, firstK, order, "0362def82bdf2fc32f12c0c2c3ca068fdc469ef10e5c4e8595f4eca9fe80e7107b"},
		{5, peg, none, moreOne, "026ee872b355da42e5550d7f9b90eeda0c0cf746f94a9755176063650724b6b894"},
		{5, gold, lessOne, firstK, "036201ef20c5084673ae191c427b45ebd6d99f00ffc49bc216d329fedd66078738"},
		{1 << 32, peg, none, one, "03c12359a2a7a651b40f72b9705e7d891b7044deb53d244cc6d01212952e0cd0af"},
		{1 << 32, gold, firstK, secondK, "02967c7b059ed58aeb1a264d15e6c49448be0720ca112fedb89462efb1c34a3844"},
		{1 << 63, peg, firstK, none, "038efea1625fe9e3026c2cd705998333ef6da53ff2d17277fdef39a5d297566c0e"},
		{1 << 63, peg, none, two, "032c5e1b65ed67b97e4b9a3299a67c39c2366b5a0ab645a2212435c36492d35949"},
		{all - 1, gold, none, secondK, "03efd28b5ede77b415c0e576911440ee28e6ae21d17f4d99f035c4f3c771261583"},
		{all, peg, none, none, "03a8063bd8d6cae40d67a4756877c7bf24832707884dc63f2010a371e56872df64"},
		{all, peg, none, lessOne, "038685b4838081039c2d7876d1e04f03f9bcaac1b820c6e935cf072946038ebcd8"},
		{all, gold, firstK, secondK, "033873a68a7075857a5372faae6f39d03602fd1d98b4e45f77055ba29a29465c85"},
		{all, noName, highest, highest, "02f670acc0931ab80f132979f43365b24149a9e54155127f3cda8ce2469993ca3f"},
		{0x123456789abcdef1, last, secondK, firstK, "02a2faac35595723f0cdec0ec2652ab7124015984d5597f5f042f8fb2e6c63a6cd"},
	}
}

func TestAsset(t *testing.T) {
	for _, c := range assets() {
		what := fmt.Sprintf("P7.1: Asset(%x, %x)", c.id, c.blind)
		check(t, what, commit.Asset(c.id, c.blind), c.code)
	}
	for _, id := range []api.Digest{noName, peg, gold, last} {
		same(t, fmt.Sprintf("P7.1: Asset(%x, 0)", id), commit.Asset(id, none), curve.Generator(id))
	}
}

func TestValue(t *testing.T) {
	for _, c := range values() {
		what := fmt.Sprintf("P7.1: Value(%d, Asset(%x, %x), %x)", c.value, c.id, c.tag, c.blind)
		check(t, what, commit.Value(c.value, commit.Asset(c.id, c.tag), c.blind), c.code)
	}
}

// Where the asset is the base point itself, value and scalar add up.
func TestValueOfBase(t *testing.T) {
	for _, c := range []struct {
		value uint64
		blind api.Scalar
		code  string
	}{
		{0, none, "000000000000000000000000000000000000000000000000000000000000000000"},
		{1, none, "0279be667ef9dcbbac55a06295ce870b07029bfcdb2dce28d959f2815b16f81798"},
		{1, lessTwo, "0379be667ef9dcbbac55a06295ce870b07029bfcdb2dce28d959f2815b16f81798"},
		{5, scalar.Of(5), "03a0434d9e47f3c86235477c7b1ae6ae5d3442d49b1943c2b752a68e2a47e247c7"},
		{7, scalar.Neg(scalar.Of(7)), "000000000000000000000000000000000000000000000000000000000000000000"},
		{1, lessOne, "000000000000000000000000000000000000000000000000000000000000000000"},
		{all, scalar.Neg(scalar.Of(all)), "000000000000000000000000000000000000000000000000000000000000000000"},
		{all, one, "023322d401243c4e2582a2147c104d6ecbf774d163db0f5e5313b7e0e742d0e6bd"},
	} {
		check(t, fmt.Sprintf("P7.1: Value(%d, Base, %x)", c.value, c.blind), commit.Value(c.value, base, c.blind), c.code)
	}
}

// A point that is not valid is treated as Zero, and leaves the multiple of Base.
func TestValueOfNoAsset(t *testing.T) {
	for _, p := range append(invalid(), zero) {
		for _, v := range []uint64{0, 1, 3, all} {
			for _, k := range []api.Scalar{none, one, lessOne, firstK} {
				same(t, fmt.Sprintf("P7.1: Value(%d, %s, %x)", v, show(p), k), commit.Value(v, p, k), curve.Mul(k, base))
			}
		}
	}
}

func TestRightTag(t *testing.T) {
	for _, id := range []api.Digest{noName, peg, gold, last} {
		if !commit.RightTag(api.Tag{Id: id}) {
			t.Errorf("P7.2: the open tag of %x is not right", id)
		}
		for _, p := range slices.Concat(hiding(), invalid()[1:], []api.Point{zero}) {
			if commit.RightTag(api.Tag{Id: id, Point: p}) {
				t.Errorf("P7.2: an open tag that bears the point %s is right", show(p))
			}
		}
	}
	for _, p := range hiding() {
		if !commit.RightTag(api.Tag{Blind: true, Point: p}) {
			t.Errorf("P7.2: the blinded tag of %s is not right", show(p))
		}
		for i := range 32 {
			tag := api.Tag{Blind: true, Point: p}
			tag.Id[i] = 1 << (i % 8)
			if commit.RightTag(tag) {
				t.Errorf("P7.2: a blinded tag that bears an Id is right, of which the byte %d is not zero", i)
			}
		}
	}
	for _, p := range append(invalid(), zero) {
		if commit.RightTag(api.Tag{Blind: true, Point: p}) || commit.RightTag(api.Tag{Blind: true, Id: peg, Point: p}) {
			t.Errorf("P7.2: the blinded tag of %s is right", show(p))
		}
	}
	if !commit.RightTag(api.Tag{}) || commit.RightTag(api.Tag{Blind: true}) {
		t.Error("P7.2: the zero tag")
	}
}

func TestRightAmount(t *testing.T) {
	for _, v := range []uint64{0, 1, 2, 1 << 32, 1 << 63, all} {
		if !commit.RightAmount(api.Amount{Value: v}) {
			t.Errorf("P7.2: the open amount of %d is not right", v)
		}
		for _, p := range slices.Concat(hiding(), invalid()[1:], []api.Point{zero}) {
			if commit.RightAmount(api.Amount{Value: v, Point: p}) {
				t.Errorf("P7.2: an open amount that bears the point %s is right", show(p))
			}
		}
	}
	for _, p := range hiding() {
		if !commit.RightAmount(api.Amount{Blind: true, Point: p}) {
			t.Errorf("P7.2: the blinded amount of %s is not right", show(p))
		}
		for i := range 64 {
			if commit.RightAmount(api.Amount{Blind: true, Value: 1 << i, Point: p}) {
				t.Errorf("P7.2: a blinded amount that bears the value 2^%d is right", i)
			}
		}
	}
	for _, p := range append(invalid(), zero) {
		if commit.RightAmount(api.Amount{Blind: true, Point: p}) || commit.RightAmount(api.Amount{Blind: true, Value: 1, Point: p}) {
			t.Errorf("P7.2: the blinded amount of %s is right", show(p))
		}
	}
	if !commit.RightAmount(api.Amount{}) || commit.RightAmount(api.Amount{Blind: true}) {
		t.Error("P7.2: the zero amount")
	}
}

func TestTag(t *testing.T) {
	for _, c := range assets() {
		if c.blind == none {
			check(t, fmt.Sprintf("P7.3: Tag of the open tag of %x", c.id), commit.Tag(api.Tag{Id: c.id}), c.code)
			check(t, fmt.Sprintf("P7.3: Tag of the open tag of %x, which bears a point", c.id), commit.Tag(api.Tag{Id: c.id, Point: base}), c.code)
		}
		p := commit.Asset(c.id, c.blind)
		check(t, "P7.3: Tag of a blinded tag", commit.Tag(api.Tag{Blind: true, Point: p}), c.code)
		check(t, "P7.3: Tag of a blinded tag that bears an Id", commit.Tag(api.Tag{Blind: true, Id: last, Point: p}), c.code)
	}
	for _, p := range append(invalid(), zero) {
		same(t, "P7.3: Tag of a blinded tag that is not valid", commit.Tag(api.Tag{Blind: true, Point: p}), p)
	}
}

func TestAmount(t *testing.T) {
	for _, c := range values() {
		p := commit.Asset(c.id, c.tag)
		blinded := api.Tag{Blind: true, Point: p}
		if c.blind == none {
			check(t, fmt.Sprintf("P7.3: Amount of %d of %s", c.value, show(p)), commit.Amount(blinded, api.Amount{Value: c.value}), c.code)
			check(t, "P7.3: Amount of an open amount that bears a point", commit.Amount(blinded, api.Amount{Value: c.value, Point: base}), c.code)
		}
		if c.blind == none && c.tag == none {
			check(t, fmt.Sprintf("P7.3: Amount of %d of %x", c.value, c.id), commit.Amount(api.Tag{Id: c.id}, api.Amount{Value: c.value}), c.code)
			check(t, "P7.3: Amount of a tag that bears a point", commit.Amount(api.Tag{Id: c.id, Point: base}, api.Amount{Value: c.value}), c.code)
		}
		hidden := api.Amount{Blind: true, Point: commit.Value(c.value, p, c.blind)}
		for _, tag := range []api.Tag{blinded, {Id: c.id}, {Id: last}, {}, {Blind: true}} {
			check(t, "P7.3: Amount of a blinded amount", commit.Amount(tag, hidden), c.code)
		}
		hidden.Value = 3
		check(t, "P7.3: Amount of a blinded amount that bears a value", commit.Amount(blinded, hidden), c.code)
	}
	for _, p := range append(invalid(), zero) {
		same(t, "P7.3: Amount of a blinded amount that is not valid", commit.Amount(api.Tag{Id: peg}, api.Amount{Blind: true, Point: p}), p)
		same(t, "P7.3: Amount of 5 of a tag without a point", commit.Amount(api.Tag{Blind: true, Point: p}, api.Amount{Value: 5}), zero)
	}
}
