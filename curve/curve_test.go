package curve_test

import (
	"encoding/hex"
	"fmt"
	"iter"
	"math"
	"math/big"
	"math/rand"
	"slices"
	"testing"

	"tollhouse/api"
	"tollhouse/curve"
)

const all = math.MaxUint64 // a word of ones

// p0 is the lowest word of p, above which all ones stand; n0 and n1 are the lower words of n.
const (
	p0 = 0xfffffffefffffc2f
	n0 = 0xbfd25e8cd0364141
	n1 = 0xbaaedce6af48a03b
)

var (
	order   = api.Scalar{n0, n1, all - 1, all}
	lessOne = api.Scalar{n0 - 1, n1, all - 1, all}
	moreOne = api.Scalar{n0 + 1, n1, all - 1, all}
	lessTwo = api.Scalar{n0 - 2, n1, all - 1, all}
	halfN   = api.Scalar{0xdfe92f46681b20a0, 0x5d576e7357a4501d, all, all >> 1} // (n - 1) / 2
	highest = api.Scalar{all, all, all, all}
	overN   = api.Scalar{0x402da1732fc9bebe, 0x4551231950b75fc4, 1} // highest - n
)

// Four numbers without a pattern, and as many times Base. They and what is made of them below were worked out by another program.
var (
	firstK  = api.Scalar{0x89137f8c94d53e8a, 0x887bcdf4562a07b2, 0x46537b8b31d6962a, 0x6efa404701ae2518}
	secondK = api.Scalar{0x8bdcd69e321a41f2, 0xe8aafcd7fdb2b6f1, 0x0ea7688cf8c4ff85, 0xa3420f3cf8995d84}
	thirdK  = api.Scalar{0x000151f613650115, 0x14d390292ca5e23c, 0xadae5fbcc094fb2b, 0x238c1ad2f574866f}
	fourthK = api.Scalar{0xb616a57831728a96, 0xd71008010c4f867b, 0xad0c6edf63ced170, 0x0384dfcc52c8bd65}

	firstP  = at("f80886be727519f317ba62352a139155e776f554aac347d96ac977603e29e5f4", "2ac0936643f99c62f3cd09d6279b138a6ae0a661d1bbd3cca784fec9ca73ad42")
	secondP = at("efad9b553ec94f6121941b32d490be0bf87d53c8c1d7dbd2493a970d30a5f88e", "f505f944c68091e38eec893388c4e4a4c9affa509046e1d062df7302ef2785f5")
	thirdP  = at("bc528071c5f0384d4e8b235a760033746da71c4eafcb49aad8803592a68de56f", "24758da750b0c4188bba4c0cf4b2c1d16bf52fcb295b00e9ceb78f62755f606e")
	fourthP = at("1db8874a85027f55853e09403c9d2c77a02cf3056a13fe1098da5f6ab9921d17", "32701cd76fb69ff12c28fb09ce46711ddfa95f84e4a235473de63ba2b918fd89")
)

// Base and its first multiples.
var (
	zero  = api.Point{Inf: true}
	base  = at("79be667ef9dcbbac55a06295ce870b07029bfcdb2dce28d959f2815b16f81798", "483ada7726a3c4655da4fbfc0e1108a8fd17b448a68554199c47d08ffb10d4b8")
	minus = at("79be667ef9dcbbac55a06295ce870b07029bfcdb2dce28d959f2815b16f81798", "b7c52588d95c3b9aa25b0403f1eef75702e84bb7597aabe663b82f6f04ef2777")
	two   = at("c6047f9441ed7d6d3045406e95c07cd85c778e4b8cef3ca7abac09b95c709ee5", "1ae168fea63dc339a3c58419466ceaeef7f632653266d0e1236431a950cfe52a")
	three = at("f9308a019258c31049344f85f89d5229b531c845836f99b08601f113bce036f9", "388f7b0f632de8140fe337e62a37f3566500a99934c2231b6cb9fd7584b8e672")
	six   = at("fff97bd5755eeea420453a14355235d382f6472f8568a18b2f057a1460297556", "ae12777aacfbb620f3be96017f45c560de80f0f6518fe4a03c870c36b075f297")
)

// Points next to 0: of X 1, 2 and 3, and of Y 1 and 6.
var (
	lowX  = at("0000000000000000000000000000000000000000000000000000000000000001", "4218f20ae6c646b363db68605822fb14264ca8d2587fdd6fbc750d587e76a7ee")
	lowX2 = at("0000000000000000000000000000000000000000000000000000000000000002", "66fbe727b2ba09e09f5a98d70a5efce8424c5fa425bbda1c511f860657b8535e")
	lowX3 = at("0000000000000000000000000000000000000000000000000000000000000003", "d0dccc6a374f85c7cb5f1a6425bc6bb4a20c877ad1a9f143f0dd788060b640e4")
	lowY  = at("1fe1e5ef3fceb5c135ab7741333ce5a6e80d68167653f6b2b24bcbcfaaaff507", "0000000000000000000000000000000000000000000000000000000000000001")
	lowY6 = at("c8b492e17665b9e65e4a124661e1103f1aebfcc849dcd94f7688dcf149f6f4f2", "0000000000000000000000000000000000000000000000000000000000000006")
)

// Points whose Y is that of Base.
var (
	level  = at("bcace2e99da01887ab0102b696902325872844067f15e98da7bba04400b88fcb", "483ada7726a3c4655da4fbfc0e1108a8fd17b448a68554199c47d08ffb10d4b8")
	level2 = at("c994b69768832bcbff5e9ab39ae8d1d3763bbf1e531bed98fe51de5ee84f50fb", "483ada7726a3c4655da4fbfc0e1108a8fd17b448a68554199c47d08ffb10d4b8")
)

func bytesOf(digits string) []byte {
	b, err := hex.DecodeString(digits)
	if err != nil {
		panic(err)
	}
	return b
}

func key(digits string) api.Key { return api.Key(bytesOf(digits)) }

func at(x, y string) api.Point {
	return api.Point{X: words(new(big.Int).SetBytes(bytesOf(x))), Y: words(new(big.Int).SetBytes(bytesOf(y)))}
}

// words are the four words of a number below 2^256.
func words(n *big.Int) api.Fe {
	var a api.Fe
	for i := range 256 {
		a[i/64] |= uint64(n.Bit(i)) << (i % 64)
	}
	return a
}

// value is the number that four words stand for.
func value(a [4]uint64) *big.Int {
	n := new(big.Int)
	for _, w := range slices.Backward(a[:]) {
		n.Lsh(n, 64)
		n.Add(n, new(big.Int).SetUint64(w))
	}
	return n
}

// bigP is p, and bigN is n, worked out from their definitions.
func bigP() *big.Int {
	p := new(big.Int).Lsh(big.NewInt(1), 256)
	p.Sub(p, new(big.Int).Lsh(big.NewInt(1), 32))
	return p.Sub(p, big.NewInt(977))
}

func bigN() *big.Int {
	less, ok := new(big.Int).SetString("432420386565659656852420866394968145599", 10)
	if !ok {
		panic("no number")
	}
	n := new(big.Int).Lsh(big.NewInt(1), 256)
	return n.Sub(n, less)
}

// plain is a point by its numbers, and without them at infinity; sums of such points are worked out by package big, as the chapter has it.
type plain struct{ x, y *big.Int }

func plainOf(p api.Point) plain {
	if p.Inf {
		return plain{}
	}
	return plain{value(p.X), value(p.Y)}
}

func (a plain) point() api.Point {
	if a.x == nil {
		return zero
	}
	return api.Point{X: words(a.x), Y: words(a.y)}
}

func (a plain) plus(b plain) plain {
	if a.x == nil {
		return b
	}
	if b.x == nil {
		return a
	}
	p := bigP()
	rise, run := new(big.Int).Sub(b.y, a.y), new(big.Int).Sub(b.x, a.x)
	if run.Sign() == 0 {
		if rise.Sign() != 0 {
			return plain{}
		}
		rise.Mul(a.x, a.x)
		rise.Mul(rise, big.NewInt(3))
		run.Add(a.y, a.y)
	}
	run.Mod(run, p)
	s := rise.Mul(rise, run.ModInverse(run, p))
	x := new(big.Int).Mul(s, s)
	x.Sub(x, a.x)
	x.Sub(x, b.x)
	x.Mod(x, p)
	y := new(big.Int).Sub(a.x, x)
	y.Mul(y, s)
	y.Sub(y, a.y)
	return plain{x, y.Mod(y, p)}
}

func (a plain) times(k *big.Int) plain {
	var sum plain
	for i := k.BitLen() - 1; i >= 0; i-- {
		sum = sum.plus(sum)
		if k.Bit(i) == 1 {
			sum = sum.plus(a)
		}
	}
	return sum
}

// multiple is what Mul should answer: the number is taken as it stands, for n copies are Zero.
func multiple(k api.Scalar, p api.Point) api.Point {
	return plainOf(p).times(value(k)).point()
}

// points are valid ones: Zero, Base and its neighbours, some that share its Y, some with numbers next to 0, some opposites, some without a pattern.
func points() []api.Point {
	l := []api.Point{zero, base, minus, two, three, six, firstP, secondP, thirdP, fourthP, level, level2}
	for _, p := range []api.Point{lowX, lowX2, lowX3, lowY, lowY6, two, firstP} {
		l = append(l, p, api.Point{X: p.X, Y: words(new(big.Int).Sub(bigP(), value(p.Y)))})
	}
	return l
}

// invalid are points that are not valid.
func invalid() []api.Point {
	l := []api.Point{
		{},
		{X: base.X, Y: base.Y, Inf: true},
		{X: base.X, Inf: true},
		{Y: base.Y, Inf: true},
		{X: base.X},
		{Y: base.Y},
		{X: base.Y, Y: base.X},
		{X: base.X, Y: two.Y},
		{X: api.Fe{1}, Y: api.Fe{1}},
		{X: api.Fe{0, 0, 0, 7}, Y: api.Fe{7}},
		{X: api.Fe{p0, all, all, all}},
		{X: api.Fe{p0, all, all, all}, Y: api.Fe{p0, all, all, all}},
		{X: api.Fe{p0, all, all, all}, Y: api.Fe{p0, all, all, all}, Inf: true},
		{X: api.Fe{all, all, all, all}, Y: api.Fe{all, all, all, all}},
		// The numbers of valid points, and p.
		{X: api.Fe{p0 + 1, all, all, all}, Y: lowX.Y},
		{X: api.Fe{p0 + 2, all, all, all}, Y: lowX2.Y},
		{X: api.Fe{p0 + 3, all, all, all}, Y: lowX3.Y},
		{X: lowY.X, Y: api.Fe{p0 + 1, all, all, all}},
		{X: lowY6.X, Y: api.Fe{p0 + 6, all, all, all}},
	}
	for i := range 4 {
		x, y := api.Point{Inf: true}, api.Point{Inf: true}
		x.X[i], y.Y[i] = 1, 1<<63
		l = append(l, x, y)
	}
	return l
}

func numbers() []api.Scalar {
	l := []api.Scalar{{}, {1}, {2}, {3}, {15}, {16}, {17}, {255}, {1 << 60}, {1 << 63}, {all}, {0, 1}, {0, 0, 1}, {0, 0, 0, 1 << 63}, {0, 0, all, all}, {all, all, all, all >> 4}, halfN, {halfN[0] + 1, halfN[1], all, all >> 1}, {n0 - 3, n1, all - 1, all}, lessTwo, lessOne, order, moreOne, {n0 + 2, n1, all - 1, all}, {all - 1, all, all, all}, highest, overN, firstK, secondK, thirdK, fourthK}
	r := rand.New(rand.NewSource(5))
	for range 10 {
		l = append(l, api.Scalar{r.Uint64(), r.Uint64(), r.Uint64(), r.Uint64()})
	}
	return l
}

// show is a point as it is told of.
func show(p api.Point) string { return fmt.Sprintf("(%x, %x, %t)", p.X, p.Y, p.Inf) }

// check fails where a result is not the wanted one, or not a valid point.
func check(t *testing.T, what string, got, want api.Point) {
	t.Helper()
	if got != want {
		t.Errorf("%s = %s, want %s", what, show(got), show(want))
	}
	if !curve.Right(got) {
		t.Errorf("P5.1: %s is not valid: %s", what, show(got))
	}
}

func TestConstants(t *testing.T) {
	check(t, "P5.1: Zero", curve.Zero(), zero)
	check(t, "P5.1: Base", curve.Base(), base)
}

func TestRight(t *testing.T) {
	for _, p := range points() {
		if !curve.Right(p) {
			t.Errorf("P5.1: Right(%s) = false", show(p))
		}
	}
	for _, p := range invalid() {
		if curve.Right(p) {
			t.Errorf("P5.1: Right(%s) = true", show(p))
		}
	}
}

// With any one bit turned, a point is none of the curve.
func TestRightBitByBit(t *testing.T) {
	for _, p := range points() {
		for i := range 256 {
			x, y := p, p
			x.X[i/64] ^= 1 << (i % 64)
			y.Y[i/64] ^= 1 << (i % 64)
			if curve.Right(x) || curve.Right(y) {
				t.Errorf("P5.1: %s is valid with bit %d of X, or of Y, turned", show(p), i)
			}
		}
		p.Inf = !p.Inf
		if curve.Right(p) {
			t.Errorf("P5.1: Right(%s) = true", show(p))
		}
	}
}

// What a function makes of points that are not valid is what it makes of Zero.
func TestInvalidPointsAreZero(t *testing.T) {
	for _, p := range invalid() {
		for _, q := range append(points(), invalid()[:3]...) {
			want := q
			if !curve.Right(q) {
				want = zero
			}
			check(t, "P5.1: Add of one that is not valid", curve.Add(p, q), want)
			check(t, "P5.1: Add to one that is not valid", curve.Add(q, p), want)
			check(t, "P5.1: Sum with one that is not valid", curve.Sum(slices.Values([]api.Point{q, p})), want)
			check(t, "P5.1: Sum from one that is not valid", curve.Sum(slices.Values([]api.Point{p, q})), want)
			check(t, "P5.1: Multi with one that is not valid", curve.Multi([]api.Term{{K: firstK, P: p}, {K: api.Scalar{1}, P: q}}), want)
		}
		check(t, "P5.1: Add of one that is not valid, twice", curve.Add(p, p), zero)
		check(t, "P5.1: Neg of one that is not valid", curve.Neg(p), zero)
		check(t, "P5.1: Sum of one that is not valid", curve.Sum(slices.Values([]api.Point{p})), zero)
		for _, k := range []api.Scalar{{}, {1}, {2}, firstK, lessOne, highest} {
			check(t, "P5.1: Mul of one that is not valid", curve.Mul(k, p), zero)
			check(t, "P5.1: Multi of one that is not valid", curve.Multi([]api.Term{{K: k, P: p}}), zero)
		}
		if got := curve.Encode(p); got != [33]byte{} {
			t.Errorf("P5.1: Encode(%s) = %x", show(p), got)
		}
	}
}

func TestFewSums(t *testing.T) {
	for _, c := range []struct{ p, q, want api.Point }{
		{zero, zero, zero},
		{base, zero, base},
		{zero, base, base},
		{base, minus, zero},
		{minus, base, zero},
		{base, base, two},
		{base, two, three},
		{two, base, three},
		{three, three, six},
		{two, minus, base},
		{three, minus, two},
		{base, level, curve.Neg(level2)},
		{level, level2, minus},
		{api.Point{}, base, base},
		{base, api.Point{}, base},
		{api.Point{}, api.Point{}, zero},
	} {
		check(t, "P5.2: Add", curve.Add(c.p, c.q), c.want)
	}
	for _, c := range []struct {
		p, q api.Point
		want string
	}{
		{firstP, secondP, "0253d1de2422b8929bc3910eade317b78f4350a309f1e559c0f4f194f9decaf95f"},
		{thirdP, fourthP, "0358cc9fd946cc5670eea30347b645ffd4279837c4fe5f85b368b9cf8b85995fcb"},
		{firstP, firstP, "0348897cb6032a4dc777c951c29d488999b553a5bbe26292e57ea0ed87edf99639"},
	} {
		if got := curve.Encode(curve.Add(c.p, c.q)); hex.EncodeToString(got[:]) != c.want {
			t.Errorf("P5.2: Add(%s, %s) = %x, want %s", show(c.p), show(c.q), got, c.want)
		}
	}
}

func TestEverySum(t *testing.T) {
	for _, p := range points() {
		for _, q := range points() {
			want := plainOf(p).plus(plainOf(q)).point()
			check(t, "P5.2: Add", curve.Add(p, q), want)
			check(t, "P5.2: Multi of two, once each", curve.Multi([]api.Term{{K: api.Scalar{1}, P: p}, {K: api.Scalar{1}, P: q}}), want)
		}
	}
}

func TestNegatives(t *testing.T) {
	check(t, "P5.2: Neg", curve.Neg(zero), zero)
	check(t, "P5.2: Neg", curve.Neg(base), minus)
	check(t, "P5.2: Neg", curve.Neg(minus), base)
	check(t, "P5.2: Neg", curve.Neg(lowY), api.Point{X: lowY.X, Y: api.Fe{p0 - 1, all, all, all}})
	for _, p := range points()[1:] {
		check(t, "P5.2: Neg", curve.Neg(p), api.Point{X: p.X, Y: words(new(big.Int).Sub(bigP(), value(p.Y)))})
		check(t, "P5.2: Add of Neg", curve.Add(p, curve.Neg(p)), zero)
	}
}

func TestFewMultiples(t *testing.T) {
	for _, c := range []struct {
		k       api.Scalar
		p, want api.Point
	}{
		{api.Scalar{}, base, zero},
		{api.Scalar{}, zero, zero},
		{firstK, zero, zero},
		{api.Scalar{1}, base, base},
		{api.Scalar{2}, base, two},
		{api.Scalar{3}, base, three},
		{api.Scalar{6}, base, six},
		{api.Scalar{2}, three, six},
		{api.Scalar{3}, two, six},
		{api.Scalar{8}, base, at("2f01e5e15cca351daff3843fb70f3c2f0a1bdd05e5af888a67784ef3e10a2a01", "5c4da8a741539949293d082a132d13b4c2e213d6ba5b7617b5da2cb76cbde904")},
		{api.Scalar{15}, base, at("d7924d4f7d43ea965a465ae3095ff41131e5946f3c85f79e44adbcf8e27e080e", "581e2872a86c72a683842ec228cc6defea40af2bd896d3a5c504dc9ff6a26b58")},
		{api.Scalar{16}, base, at("e60fce93b59e9ec53011aabc21c23e97b2a31369b87a5ae9c44ee89e2a6dec0a", "f7e3507399e595929db99f34f57937101296891e44d23f0be1f32cce69616821")},
		{api.Scalar{17}, base, at("defdea4cdb677750a420fee807eacf21eb9898ae79b9768766e4faa04a2d4a34", "4211ab0694635168e997b0ead2a93daeced1f4a04a95c0f6cfb199f69e56eb77")},
		{api.Scalar{112233445566778899}, base, at("a90cc3d3f3e146daadfc74ca1372207cb4b725ae708cef713a98edd73d99ef29", "5a79d6b289610c68bc3b47f3d72f9788a26a06868b4d8e433e1e2ad76fb7dc76")},
		{api.Scalar{0, 0, 0, 1 << 63}, base, at("b23790a42be63e1b251ad6c94fdef07271ec0aada31db6c3e8bd32043f8be384", "fc6b694919d55edbe8d50f88aa81f94517f004f4149ecb58d10a473deb19880e")},
		{halfN, base, at("00000000000000000000003b78ce563f89a0ed9414f5aa28ad0d96d6795f9c63", "3f3979bf72ae8202983dc989aec7f2ff2ed91bdd69ce02fc0700ca100e59ddf3")},
		{lessTwo, base, api.Point{X: two.X, Y: words(new(big.Int).Sub(bigP(), value(two.Y)))}},
		{lessOne, base, minus},
		{order, base, zero},
		{moreOne, base, base},
		{api.Scalar{n0 + 3, n1, all - 1, all}, base, three},
		{firstK, base, firstP},
		{secondK, base, secondP},
		{thirdK, base, thirdP},
		{fourthK, base, fourthP},
		{firstK, api.Point{}, zero},
	} {
		check(t, "P5.2: Mul", curve.Mul(c.k, c.p), c.want)
	}
	check(t, "P5.2: Mul(2^256 - 1, Base)", curve.Mul(highest, base), curve.Mul(overN, base))
}

func TestEveryMultiple(t *testing.T) {
	for _, k := range numbers() {
		for _, p := range points() {
			check(t, "P5.2: Mul", curve.Mul(k, p), multiple(k, p))
		}
	}
}

func TestSmallMultiples(t *testing.T) {
	for _, p := range []api.Point{base, lowX, secondP} {
		sum := zero
		for k := range uint64(300) {
			check(t, "P5.2: Mul", curve.Mul(api.Scalar{k}, p), sum)
			sum = curve.Add(sum, p)
		}
	}
}

// Each bit of the number counts for itself.
func TestMultiplesBitByBit(t *testing.T) {
	for _, p := range []api.Point{base, thirdP} {
		sum := p
		for i := range 256 {
			var k api.Scalar
			k[i/64] = 1 << (i % 64)
			check(t, "P5.2: Mul", curve.Mul(k, p), sum)
			sum = curve.Add(sum, sum)
		}
	}
}

// counted is a sequence that counts how often it is begun, and how many of its points are taken.
func counted(l []api.Point, begun, taken *int) iter.Seq[api.Point] {
	return func(yield func(api.Point) bool) {
		*begun++
		for _, p := range l {
			*taken++
			if !yield(p) {
				return
			}
		}
	}
}

func TestSums(t *testing.T) {
	for _, c := range []struct {
		l    []api.Point
		want api.Point
	}{
		{nil, zero},
		{[]api.Point{zero}, zero},
		{[]api.Point{base}, base},
		{[]api.Point{{}}, zero},
		{[]api.Point{zero, zero, zero}, zero},
		{[]api.Point{base, minus}, zero},
		{[]api.Point{base, base}, two},
		{[]api.Point{base, two}, three},
		{[]api.Point{base, minus, base}, base},
		{[]api.Point{zero, base, zero, two, zero}, three},
		{[]api.Point{three, two, base}, six},
		{[]api.Point{{}, base, {}, two, {}}, three},
		{slices.Repeat([]api.Point{base}, 6), six},
		{[]api.Point{firstP, secondP, thirdP, fourthP}, at("dd306d24fb8d9b4392e8a26e0d7ba463b24dd4701ec3b72806a6979d94ac35ea", "a849366859f3e34343c52861d7b45d0be9d11db53de507fc6bea98b7a76b7d0c")},
	} {
		before := slices.Clone(c.l)
		var begun, taken int
		check(t, "P5.2: Sum", curve.Sum(counted(c.l, &begun, &taken)), c.want)
		if begun != 1 || taken != len(c.l) {
			t.Errorf("P5.2: Sum of %d points has begun %d times and taken %d", len(c.l), begun, taken)
		}
		if !slices.Equal(c.l, before) {
			t.Error("P5.2: Sum has changed the points")
		}
	}
}

func TestLongSums(t *testing.T) {
	var l []api.Point
	for range 5 {
		l = append(l, points()...)
		l = append(l, invalid()...)
	}
	var want plain
	for i, p := range l {
		var begun, taken int
		check(t, "P5.2: Sum", curve.Sum(counted(l[:i], &begun, &taken)), want.point())
		if begun != 1 || taken != i {
			t.Errorf("P5.2: Sum of %d points has begun %d times and taken %d", i, begun, taken)
		}
		if curve.Right(p) {
			want = want.plus(plainOf(p))
		}
	}
}

func TestFewTerms(t *testing.T) {
	check(t, "P5.2: Multi of nil", curve.Multi(nil), zero)
	check(t, "P5.2: Multi of none", curve.Multi([]api.Term{}), zero)
	one := api.Scalar{1}
	for _, c := range []struct {
		l    []api.Term
		want api.Point
	}{
		{[]api.Term{{}}, zero},
		{[]api.Term{{K: one}}, zero},
		{[]api.Term{{P: base}}, zero},
		{[]api.Term{{K: one, P: zero}}, zero},
		{[]api.Term{{K: one, P: base}}, base},
		{[]api.Term{{K: order, P: base}}, zero},
		{[]api.Term{{K: moreOne, P: base}}, base},
		{[]api.Term{{K: one, P: base}, {K: one, P: base}}, two},
		{[]api.Term{{K: one, P: base}, {K: one, P: minus}}, zero},
		{[]api.Term{{K: one, P: base}, {K: lessOne, P: base}}, zero},
		{[]api.Term{{K: lessOne, P: base}, {K: lessOne, P: minus}}, zero},
		{[]api.Term{{K: firstK, P: secondP}, {K: firstK, P: curve.Neg(secondP)}}, zero},
		{[]api.Term{{K: api.Scalar{2}, P: base}, {K: one, P: two}, {K: lessOne, P: base}}, three},
		{[]api.Term{{K: one, P: zero}, {K: one, P: two}, {P: three}, {K: one}, {K: order, P: three}, {K: api.Scalar{4}, P: base}}, six},
		{[]api.Term{{K: secondK, P: firstP}}, at("c5e255fe3cc1c284671df4eabdf21ab9166d8adb6940074686008ef16bd76cef", "4e18c405585a8b0849a9c541ba18935b5b376239d328bcfbc843a203e838c55d")},
	} {
		check(t, "P5.2: Multi", curve.Multi(c.l), c.want)
	}
	got := curve.Encode(curve.Multi([]api.Term{{K: secondK, P: firstP}, {K: thirdK, P: secondP}, {K: fourthK, P: thirdP}}))
	if want := "028308d6f134d40a055ee59d7fec006699f43ed9d840b7480f0de564f692afc22b"; hex.EncodeToString(got[:]) != want {
		t.Errorf("P5.2: Multi of three = %x, want %s", got, want)
	}
}

// terms are all pairs of the numbers and the points, from some place on, in an order that mixes them.
func terms(from, many int) []api.Term {
	l, k := points(), numbers()
	var got []api.Term
	for i := from; i < from+many; i++ {
		got = append(got, api.Term{K: k[i%len(k)], P: l[i*7%len(l)]})
	}
	return got
}

// Lists of all lengths up to some hundred; neither they nor what lies behind their ends is touched.
func TestManyTerms(t *testing.T) {
	l := terms(0, 150)
	before := slices.Clone(l)
	want := zero
	for i, m := range l {
		check(t, "P5.2: Multi", curve.Multi(l[:i]), want)
		want = plainOf(want).plus(plainOf(multiple(m.K, m.P))).point()
	}
	if !slices.Equal(l, before) {
		t.Error("P5.2: Multi has changed the terms")
	}
}

// Lists of one term again and again, and of a term and its opposite, at lengths where parts of the list have equal or opposite sums.
func TestEqualTerms(t *testing.T) {
	for _, many := range []int{1, 2, 3, 15, 16, 17, 31, 32, 33, 63, 64, 65, 96, 128, 256, 257} {
		l := slices.Repeat([]api.Term{{K: firstK, P: base}}, many)
		check(t, "P5.2: Multi of equal terms", curve.Multi(l), multiple(api.Scalar{uint64(many)}, firstP))
		opposite := slices.Repeat([]api.Term{{K: firstK, P: minus}}, many)
		check(t, "P5.2: Multi of opposite terms", curve.Multi(append(l, opposite...)), zero)
		l = slices.Repeat([]api.Term{{K: api.Scalar{1}, P: base}}, many)
		check(t, "P5.2: Multi of equal terms", curve.Multi(l), multiple(api.Scalar{uint64(many)}, base))
	}
}
