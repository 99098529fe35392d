package scalar_test

import (
	"math"
	"math/big"
	"math/rand"
	"slices"
	"testing"

	"tollhouse/api"
	"tollhouse/scalar"
)

const all = math.MaxUint64 // a word of ones

// The lower words of n; above them stand all - 1, and all.
const (
	n0 = 0xbfd25e8cd0364141
	n1 = 0xbaaedce6af48a03b
)

// The lower words of 2^256 - n; above them stands 1.
const (
	gap0 = 0x402da1732fc9bebf
	gap1 = 0x4551231950b75fc4
)

var (
	theN     = api.Scalar{n0, n1, all - 1, all}
	lessOne  = api.Scalar{n0 - 1, n1, all - 1, all}
	moreOne  = api.Scalar{n0 + 1, n1, all - 1, all}
	highest  = api.Scalar{all, all, all, all}
	theGap   = api.Scalar{gap0, gap1, 1}
	halfMore = api.Scalar{0xdfe92f46681b20a1, 0x5d576e7357a4501d, all, all >> 1} // (n + 1) / 2
	halfLess = api.Scalar{0xdfe92f46681b20a0, 0x5d576e7357a4501d, all, all >> 1} // (n - 1) / 2
)

// Four numbers without a pattern. What is made of them below was worked out by another program.
var (
	first  = api.Scalar{0x89137f8c94d53e8a, 0x887bcdf4562a07b2, 0x46537b8b31d6962a, 0x6efa404701ae2518}
	second = api.Scalar{0x8bdcd69e321a41f2, 0xe8aafcd7fdb2b6f1, 0x0ea7688cf8c4ff85, 0xa3420f3cf8995d84}
	third  = api.Scalar{0x000151f613650115, 0x14d390292ca5e23c, 0xadae5fbcc094fb2b, 0x238c1ad2f574866f}
	fourth = api.Scalar{0xb616a57831728a96, 0xd71008010c4f867b, 0xad0c6edf63ced170, 0x0384dfcc52c8bd65}
)

// bigN is n, worked out from its definition.
func bigN() *big.Int {
	less, ok := new(big.Int).SetString("432420386565659656852420866394968145599", 10)
	if !ok {
		panic("no number")
	}
	n := new(big.Int).Lsh(big.NewInt(1), 256)
	return n.Sub(n, less)
}

// written are the bytes of four words, whatever number they stand for.
func written(a api.Scalar) [32]byte {
	var b [32]byte
	for i := range 256 {
		if a[i/64]>>(i%64)&1 == 1 {
			b[31-i/8] |= 1 << (i % 8)
		}
	}
	return b
}

// value is the number that four words stand for, not taken modulo n.
func value(a api.Scalar) *big.Int {
	b := written(a)
	return new(big.Int).SetBytes(b[:])
}

// words are those of a number below 2^256, not taken modulo n.
func words(x *big.Int) api.Scalar {
	var a api.Scalar
	for i := range 256 {
		a[i/64] |= uint64(x.Bit(i)) << (i % 64)
	}
	return a
}

// modulo are the words of a number modulo n.
func modulo(x *big.Int) api.Scalar { return words(new(big.Int).Mod(x, bigN())) }

// edges are numbers at which a carry, a borrow or n itself may be missed.
func edges() []api.Scalar {
	return []api.Scalar{
		{}, {1}, {2}, {3}, {1 << 63}, {all - 1}, {all}, {gap0 - 1}, {gap0}, {gap0 + 1}, {n0 - 1}, {n0}, {n0 + 1},
		{0, 1}, {1, 1}, {all, all}, {gap0, gap1}, {n0, n1}, {0, 0, 1}, {gap0 - 1, gap1, 1}, theGap, {gap0 + 1, gap1, 1}, {gap0, gap1 + 1, 1},
		{0, 0, all}, {all, all, all}, {0, 0, 0, 1}, {0, 0, 0, 1 << 63}, {all, all, all, all >> 1}, {0, 0, 0, all}, {0, all, 0, all}, {all, 0, all, 0},
		halfLess, halfMore, {n0, n1, all - 1, all - 1}, {n0, n1, all - 2, all}, {all, all, all - 2, all}, {0, 0, all - 1, all}, {all, n1 - 1, all - 1, all},
		{n0 - 2, n1, all - 1, all}, lessOne, theN, moreOne, {n0 + 2, n1, all - 1, all}, {0, n1 + 1, all - 1, all}, {n0 - 1, n1 + 1, all - 1, all},
		{0, 0, all, all}, {n0 - 1, n1 - 1, all, all}, {all - 1, all, all, all}, highest,
	}
}

// others are numbers without a pattern, the same ones each time.
func others(many int) []api.Scalar {
	r := rand.New(rand.NewSource(4))
	l := make([]api.Scalar, many)
	for i := range l {
		l[i] = api.Scalar{r.Uint64(), r.Uint64(), r.Uint64(), r.Uint64()}
	}
	return l
}

func numbers() []api.Scalar { return append(edges(), others(40)...) }

type of1 struct{ a, want api.Scalar }

type of2 struct{ a, b, want api.Scalar }

func checkOnes(t *testing.T, name string, f func(a api.Scalar) api.Scalar, l []of1) {
	t.Helper()
	for _, c := range l {
		if got := f(c.a); got != c.want {
			t.Errorf("%s(%x) = %x, want %x", name, c.a, got, c.want)
		}
	}
}

func checkTwos(t *testing.T, name string, f func(a, b api.Scalar) api.Scalar, l []of2) {
	t.Helper()
	for _, c := range l {
		if got := f(c.a, c.b); got != c.want {
			t.Errorf("%s(%x, %x) = %x, want %x", name, c.a, c.b, got, c.want)
		}
	}
}

func TestNorm(t *testing.T) {
	checkOnes(t, "P4.1: Norm", scalar.Norm, []of1{
		{api.Scalar{}, api.Scalar{}},
		{api.Scalar{1}, api.Scalar{1}},
		{api.Scalar{1, 2, 3, 4}, api.Scalar{1, 2, 3, 4}},
		{halfMore, halfMore},
		{lessOne, lessOne},
		{theN, api.Scalar{}},
		{moreOne, api.Scalar{1}},
		{highest, api.Scalar{gap0 - 1, gap1, 1}},
		{api.Scalar{all, n1 - 1, all - 1, all}, api.Scalar{all, n1 - 1, all - 1, all}},
		{api.Scalar{all, all, all - 2, all}, api.Scalar{all, all, all - 2, all}},
		{api.Scalar{all, all, all, all - 1}, api.Scalar{all, all, all, all - 1}},
		{api.Scalar{0, n1 + 1, all - 1, all}, api.Scalar{gap0}},
		{api.Scalar{0, 0, all, all}, api.Scalar{gap0, gap1}},
	})
	for _, a := range numbers() {
		if got, want := scalar.Norm(a), modulo(value(a)); got != want {
			t.Errorf("P4.1: Norm(%x) = %x, want %x", a, got, want)
		}
	}
}

// n with any one bit of the lower words turned lies next to n, below it or above it.
func TestNormAboutN(t *testing.T) {
	for i := range 128 {
		a := theN
		a[i/64] ^= 1 << (i % 64)
		want := a
		if theN[i/64]>>(i%64)&1 == 0 {
			want = api.Scalar{}
			want[i/64] = 1 << (i % 64)
		}
		if got := scalar.Norm(a); got != want {
			t.Errorf("P4.1: Norm(%x) = %x, want %x", a, got, want)
		}
	}
}

func TestOf(t *testing.T) {
	for _, m := range []uint64{0, 1, 2, 1 << 32, gap0, n0 - 1, n0, n0 + 1, 1 << 63, all - 1, all} {
		if got := scalar.Of(m); got != (api.Scalar{m}) {
			t.Errorf("P4.1: Of(%d) = %x", m, got)
		}
	}
}

func TestFewSums(t *testing.T) {
	checkTwos(t, "P4.1: Add", scalar.Add, []of2{
		{api.Scalar{}, api.Scalar{}, api.Scalar{}},
		{api.Scalar{1}, api.Scalar{2}, api.Scalar{3}},
		{lessOne, api.Scalar{1}, api.Scalar{}},
		{lessOne, api.Scalar{2}, api.Scalar{1}},
		{lessOne, lessOne, api.Scalar{n0 - 2, n1, all - 1, all}},
		{lessOne, theGap, api.Scalar{gap0 - 1, gap1, 1}},
		{lessOne, api.Scalar{gap0 + 1, gap1, 1}, theGap},
		{theN, theN, api.Scalar{}},
		{theN, api.Scalar{5}, api.Scalar{5}},
		{highest, highest, api.Scalar{2*gap0 - 2, 0x8aa24632a16ebf88, 2}},
		{highest, api.Scalar{1}, theGap},
		{api.Scalar{all}, api.Scalar{1}, api.Scalar{0, 1}},
		{api.Scalar{all, all}, api.Scalar{1}, api.Scalar{0, 0, 1}},
		{api.Scalar{all, all, all}, api.Scalar{1}, api.Scalar{0, 0, 0, 1}},
		{halfLess, halfMore, api.Scalar{}},
		{halfLess, halfLess, lessOne},
		{halfMore, halfMore, api.Scalar{1}},
		{first, second, api.Scalar{0x551df79df6b93f3b, 0xb677ede5a4941e68, 0x54fae4182a9b95b1, 0x123c4f83fa47829c}},
		{third, fourth, api.Scalar{0xb617f76e44d78bab, 0xebe3982a38f568b7, 0x5abace9c2463cc9b, 0x2710fa9f483d43d5}},
	})
}

func TestFewDifferences(t *testing.T) {
	checkTwos(t, "P4.1: Sub", scalar.Sub, []of2{
		{api.Scalar{}, api.Scalar{}, api.Scalar{}},
		{api.Scalar{3}, api.Scalar{2}, api.Scalar{1}},
		{api.Scalar{2}, api.Scalar{3}, lessOne},
		{api.Scalar{}, lessOne, api.Scalar{1}},
		{lessOne, api.Scalar{}, lessOne},
		{lessOne, lessOne, api.Scalar{}},
		{theN, api.Scalar{}, api.Scalar{}},
		{api.Scalar{}, theN, api.Scalar{}},
		{theN, api.Scalar{1}, lessOne},
		{highest, api.Scalar{}, api.Scalar{gap0 - 1, gap1, 1}},
		{api.Scalar{}, highest, api.Scalar{0x7fa4bd19a06c8283, 0x755db9cd5e914077, all - 2, all}},
		{api.Scalar{0, 0, 0, 1}, api.Scalar{1}, api.Scalar{all, all, all}},
		{first, second, api.Scalar{0xbd09077b32f13dd9, 0x5a7fae0307bff0fc, 0x37ac12fe391196a3, 0xcbb8310a0914c794}},
		{second, first, api.Scalar{0x02c957119d450368, 0x602f2ee3a788af3f, 0xc853ed01c6ee695b, 0x3447cef5f6eb386b}},
	})
}

func TestFewNegatives(t *testing.T) {
	checkOnes(t, "P4.1: Neg", scalar.Neg, []of1{
		{api.Scalar{}, api.Scalar{}},
		{api.Scalar{1}, lessOne},
		{api.Scalar{2}, api.Scalar{n0 - 2, n1, all - 1, all}},
		{lessOne, api.Scalar{1}},
		{theN, api.Scalar{}},
		{moreOne, lessOne},
		{halfLess, halfMore},
		{halfMore, halfLess},
		{highest, api.Scalar{0x7fa4bd19a06c8283, 0x755db9cd5e914077, all - 2, all}},
	})
}

func TestFewProducts(t *testing.T) {
	checkTwos(t, "P4.1: Mul", scalar.Mul, []of2{
		{api.Scalar{}, lessOne, api.Scalar{}},
		{api.Scalar{1}, lessOne, lessOne},
		{api.Scalar{3}, api.Scalar{5}, api.Scalar{15}},
		{lessOne, lessOne, api.Scalar{1}},
		{lessOne, api.Scalar{2}, api.Scalar{n0 - 2, n1, all - 1, all}},
		{api.Scalar{2}, halfMore, api.Scalar{1}},
		{theN, highest, api.Scalar{}},
		{theN, theN, api.Scalar{}},
		{moreOne, moreOne, api.Scalar{1}},
		{highest, api.Scalar{1}, api.Scalar{gap0 - 1, gap1, 1}},
		{highest, highest, api.Scalar{0x0911af2e084453c3, 0xe972508f6d0e38f0, 0xe697f5e45bcd07c3, 0x9d671cd581c69bc5}},
		{api.Scalar{all}, api.Scalar{all}, api.Scalar{1, all - 1}},
		{api.Scalar{0, 0, 1}, api.Scalar{0, 0, 1}, theGap},
		{api.Scalar{0, 0, 0, 1}, api.Scalar{0, 1}, theGap},
		{api.Scalar{0, 0, 0, 1}, api.Scalar{0, 0, 0, 1}, api.Scalar{gap0, gap1, gap0 + 1, gap1}},
		{api.Scalar{0, 0, 0, 1 << 63}, api.Scalar{0, 0, 0, 1 << 63}, api.Scalar{0x225b3c8519f5f450, 0x9d0525b0839f3e1e, 0x79a5fd7916f341f1, 0x2759c7356071a6f1}},
		{first, second, api.Scalar{0x41cdeedb28f7d464, 0x4b230c9a4b59be2c, 0xae6d25503d15c14e, 0x3e06b5675a3d8b3e}},
		{third, fourth, api.Scalar{0x1d2df6f82b95788f, 0x591305dc023f5050, 0x3e932c566245c60e, 0x6c10e52f7f0853f3}},
	})
}

// checkPair holds what is made of two numbers against what package big makes of them.
func checkPair(t *testing.T, a, b api.Scalar) {
	t.Helper()
	r, x, y := new(big.Int), value(a), value(b)
	checkTwos(t, "P4.1: Add", scalar.Add, []of2{{a, b, modulo(r.Add(x, y))}})
	checkTwos(t, "P4.1: Sub", scalar.Sub, []of2{{a, b, modulo(r.Sub(x, y))}})
	checkTwos(t, "P4.1: Mul", scalar.Mul, []of2{{a, b, modulo(r.Mul(x, y))}})
}

func TestEveryPair(t *testing.T) {
	l := numbers()
	for _, a := range l {
		checkOnes(t, "P4.1: Neg", scalar.Neg, []of1{{a, modulo(new(big.Int).Neg(value(a)))}})
		for _, b := range l {
			checkPair(t, a, b)
		}
	}
}

// Words that are each 0, all ones, those of n or of no pattern are those where carries go far.
func TestPairsOfOddWords(t *testing.T) {
	r := rand.New(rand.NewSource(41))
	pick := func() api.Scalar {
		var a api.Scalar
		for i := range a {
			a[i] = []uint64{0, 1, gap0, gap1, n0, n1, all - 1, all, r.Uint64()}[r.Intn(9)]
		}
		return a
	}
	for range 20000 {
		checkPair(t, pick(), pick())
	}
}

// nearEdges are numbers next to 0, to 2^256 and to what is short of it, from both sides.
func nearEdges() []*big.Int {
	var l []*big.Int
	short := value(theGap)
	for d := int64(-2); d <= 2; d++ {
		l = append(l, big.NewInt(d), new(big.Int).Add(short, big.NewInt(d)), new(big.Int).Sub(big.NewInt(d), short))
	}
	for bits := uint(63); bits < 134; bits++ {
		x := new(big.Int).Lsh(big.NewInt(1), bits)
		l = append(l, x, new(big.Int).Neg(x))
	}
	return l
}

// Numbers picked blindly never have a product that is next to 0 modulo n.
func TestProductsNearTheEdge(t *testing.T) {
	wanted := nearEdges()
	for _, a := range numbers() {
		inverse := new(big.Int).ModInverse(value(a), bigN())
		if inverse == nil {
			continue
		}
		for _, want := range wanted {
			b := modulo(new(big.Int).Mul(want, inverse))
			checkTwos(t, "P4.1: Mul", scalar.Mul, []of2{{a, b, modulo(want)}})
		}
	}
}

// Products from a little below to a little above some multiples of 2^256, and with the greatest words: what stands above 2^256 has then every length that it can have.
func TestProductsOfGreatNumbers(t *testing.T) {
	top := new(big.Int).Lsh(big.NewInt(1), 256)
	for i := range uint(256) {
		x := new(big.Int).Lsh(big.NewInt(1), i)
		down := new(big.Int).Sub(top, x)
		for _, y := range []*big.Int{x, new(big.Int).Sub(x, big.NewInt(1)), down} {
			b := words(y)
			for _, a := range []api.Scalar{highest, lessOne, theN, {0, 0, 0, 1 << 63}, theGap, words(down), words(x)} {
				checkTwos(t, "P4.1: Mul", scalar.Mul, []of2{{a, b, modulo(new(big.Int).Mul(value(a), y))}})
			}
		}
	}
}

func TestFewLongSums(t *testing.T) {
	if got := scalar.Sum(); got != (api.Scalar{}) {
		t.Errorf("P4.1: Sum() = %x", got)
	}
	for _, c := range []struct {
		l    []api.Scalar
		want api.Scalar
	}{
		{nil, api.Scalar{}},
		{[]api.Scalar{}, api.Scalar{}},
		{[]api.Scalar{{7}}, api.Scalar{7}},
		{[]api.Scalar{lessOne}, lessOne},
		{[]api.Scalar{theN}, api.Scalar{}},
		{[]api.Scalar{highest}, api.Scalar{gap0 - 1, gap1, 1}},
		{[]api.Scalar{{1}, {2}, scalar.Neg(api.Scalar{3})}, api.Scalar{}},
		{[]api.Scalar{lessOne, lessOne, lessOne}, api.Scalar{n0 - 3, n1, all - 1, all}},
		{[]api.Scalar{theN, theN, theN, {9}, theN}, api.Scalar{9}},
		{[]api.Scalar{first, second, third, fourth}, api.Scalar{0x0b35ef0c3b90cae6, 0xa25b860fdd898720, 0xafb5b2b44eff624d, 0x394d4a234284c671}},
	} {
		if got := scalar.Sum(c.l...); got != c.want {
			t.Errorf("P4.1: Sum(%x) = %x, want %x", c.l, got, c.want)
		}
	}
	if got := scalar.Sum(first, second, third, fourth); got != (api.Scalar{0x0b35ef0c3b90cae6, 0xa25b860fdd898720, 0xafb5b2b44eff624d, 0x394d4a234284c671}) {
		t.Errorf("P4.1: Sum of four = %x", got)
	}
}

// Sums of more and more numbers, up to a few thousand; neither the list nor what lies behind its end is touched.
func TestLongSums(t *testing.T) {
	var l []api.Scalar
	for range 20 {
		l = append(l, numbers()...)
		l = append(l, highest, highest, highest)
	}
	before := slices.Clone(l)
	total := new(big.Int)
	for i := range l {
		if got, want := scalar.Sum(l[:i]...), modulo(total); got != want {
			t.Fatalf("P4.1: Sum of the first %d = %x, want %x", i, got, want)
		}
		total.Add(total, value(l[i]))
	}
	many := slices.Repeat([]api.Scalar{highest}, 5000)
	want := modulo(new(big.Int).Mul(value(highest), big.NewInt(5000)))
	if got := scalar.Sum(many...); got != want {
		t.Errorf("P4.1: Sum of 5000 = %x, want %x", got, want)
	}
	if !slices.Equal(l, before) {
		t.Error("P4.1: Sum has changed its arguments")
	}
}

func TestFewInverses(t *testing.T) {
	checkOnes(t, "P4.2: Inv", scalar.Inv, []of1{
		{api.Scalar{}, api.Scalar{}},
		{theN, api.Scalar{}},
		{api.Scalar{1}, api.Scalar{1}},
		{moreOne, api.Scalar{1}},
		{lessOne, lessOne},
		{api.Scalar{2}, halfMore},
		{halfMore, api.Scalar{2}},
		{api.Scalar{n0 - 2, n1, all - 1, all}, halfLess},
		{api.Scalar{n0 + 2, n1, all - 1, all}, halfMore},
		{api.Scalar{3}, api.Scalar{0x7fe1945de0242b81, 0xd1c9e899ca306ad2, 0xaaaaaaaaaaaaaaa9, 0xaaaaaaaaaaaaaaaa}},
		{highest, api.Scalar{0xf178ad1b6c2151c8, 0xd04dd978f7b69d07, 0xfc36e5fd38feed2c, 0x1a2f66582f865803}},
		{first, api.Scalar{0x486aecefd580e87d, 0x90a8e8e14218d95d, 0x237cefda487686d2, 0x3d40fccf05593005}},
		{third, api.Scalar{0x800e815ba7617303, 0x96d5c2b6d8abc39e, 0x3b94bb7238215260, 0x2c936ca01a8ff662}},
	})
}

func TestEveryInverse(t *testing.T) {
	for _, a := range append(numbers(), others(200)...) {
		want := api.Scalar{}
		if x := new(big.Int).ModInverse(value(a), bigN()); x != nil {
			want = modulo(x)
		}
		checkOnes(t, "P4.2: Inv", scalar.Inv, []of1{{a, want}})
	}
}

// row are the 32 bytes from 1 to 32, whose words are rowWords.
func row() [32]byte {
	var b [32]byte
	for i := range b {
		b[i] = byte(i + 1)
	}
	return b
}

var rowWords = api.Scalar{0x191a1b1c1d1e1f20, 0x1112131415161718, 0x090a0b0c0d0e0f10, 0x0102030405060708}

func TestBytes(t *testing.T) {
	for _, c := range []struct {
		a    api.Scalar
		want [32]byte
	}{
		{api.Scalar{}, [32]byte{}},
		{api.Scalar{258}, [32]byte{30: 1, 31: 2}},
		{rowWords, row()},
		{lessOne, written(lessOne)},
		{theN, [32]byte{}},
		{moreOne, [32]byte{31: 1}},
		{highest, written(api.Scalar{gap0 - 1, gap1, 1})},
	} {
		if got := scalar.Bytes(c.a); got != c.want {
			t.Errorf("P4.3: Bytes(%x) = %x, want %x", c.a, got, c.want)
		}
	}
	for _, a := range numbers() {
		var want [32]byte
		new(big.Int).Mod(value(a), bigN()).FillBytes(want[:])
		if got := scalar.Bytes(a); got != want {
			t.Errorf("P4.3: Bytes(%x) = %x, want %x", a, got, want)
		}
	}
}

// checkRead holds Read and Reduce of the bytes of four words against what they are to answer.
func checkRead(t *testing.T, a, reduced api.Scalar, ok bool) {
	t.Helper()
	want := a
	if !ok {
		want = api.Scalar{}
	}
	if got, is := scalar.Read(written(a)); got != want || is != ok {
		t.Errorf("P4.3: Read of the bytes of %x = %x, %t", a, got, is)
	}
	if got := scalar.Reduce(written(a)); got != reduced {
		t.Errorf("P4.3: Reduce of the bytes of %x = %x, want %x", a, got, reduced)
	}
}

func TestRead(t *testing.T) {
	if got, ok := scalar.Read(row()); got != rowWords || !ok {
		t.Errorf("P4.3: Read = %x, %t", got, ok)
	}
	if got := scalar.Reduce(row()); got != rowWords {
		t.Errorf("P4.3: Reduce = %x", got)
	}
	for _, a := range []api.Scalar{
		{}, {1}, {258}, lessOne, {all, n1 - 1, all - 1, all}, {all, all, all - 2, all}, {all, all, all, all - 1},
	} {
		checkRead(t, a, a, true)
	}
	checkRead(t, theN, api.Scalar{}, false)
	checkRead(t, moreOne, api.Scalar{1}, false)
	checkRead(t, api.Scalar{0, n1 + 1, all - 1, all}, api.Scalar{gap0}, false)
	checkRead(t, api.Scalar{0, 0, all, all}, api.Scalar{gap0, gap1}, false)
	checkRead(t, api.Scalar{all - 1, all, all, all}, api.Scalar{gap0 - 2, gap1, 1}, false)
	checkRead(t, highest, api.Scalar{gap0 - 1, gap1, 1}, false)
	for _, a := range numbers() {
		checkRead(t, a, modulo(value(a)), value(a).Cmp(bigN()) < 0)
	}
}

// Each bit of the bytes belongs to one bit of the words.
func TestReadAndBytesBitByBit(t *testing.T) {
	for i := range 256 {
		var a api.Scalar
		a[i/64] = 1 << (i % 64)
		checkRead(t, a, a, true)
		if got := scalar.Bytes(a); got != written(a) {
			t.Errorf("P4.3: Bytes of 2^%d = %x", i, got)
		}
	}
}

func TestResultsAreLessThanN(t *testing.T) {
	l := numbers()
	for i, a := range l {
		b := l[len(l)-1-i]
		read, _ := scalar.Read(written(a))
		for j, r := range []api.Scalar{
			scalar.Norm(a), scalar.Of(a[0]), scalar.Add(a, b), scalar.Add(a, a), scalar.Sub(a, b), scalar.Sub(a, a), scalar.Neg(a), scalar.Mul(a, b), scalar.Mul(a, a),
			scalar.Inv(a), scalar.Sum(a), scalar.Sum(a, a), scalar.Sum(a, b), scalar.Sum(l[:i]...), read, scalar.Reduce(written(a)),
		} {
			if value(r).Cmp(bigN()) >= 0 {
				t.Errorf("results are less than n: of %x and %x, result %d: %x", a, b, j, r)
			}
		}
	}
}

// Whatever words stand for a number, they are that number.
func TestWordsOfOneNumber(t *testing.T) {
	for i := range 128 {
		var a api.Scalar
		a[i/64] = 1 << (i % 64)
		b := words(new(big.Int).Add(value(a), bigN()))
		for _, c := range numbers() {
			if scalar.Add(a, c) != scalar.Add(b, c) || scalar.Add(c, a) != scalar.Add(c, b) || scalar.Sub(a, c) != scalar.Sub(b, c) || scalar.Sub(c, a) != scalar.Sub(c, b) || scalar.Mul(a, c) != scalar.Mul(b, c) || scalar.Mul(c, a) != scalar.Mul(c, b) || scalar.Sum(c, a, c) != scalar.Sum(c, b, c) {
				t.Errorf("P4.1: %x and %x with %x are not the same", a, b, c)
			}
		}
		if scalar.Norm(a) != scalar.Norm(b) || scalar.Neg(a) != scalar.Neg(b) || scalar.Inv(a) != scalar.Inv(b) || scalar.Bytes(a) != scalar.Bytes(b) || scalar.Sum(a) != scalar.Sum(b) || scalar.Reduce(written(a)) != scalar.Reduce(written(b)) {
			t.Errorf("P4.1 to P4.3: %x and %x are not the same", a, b)
		}
	}
}

func TestLawsOfPairs(t *testing.T) {
	l := numbers()
	for _, a := range l {
		for _, b := range l {
			if scalar.Add(a, b) != scalar.Add(b, a) || scalar.Mul(a, b) != scalar.Mul(b, a) {
				t.Errorf("P4.4: Add or Mul of %x and %x hangs on their order", a, b)
			}
			if scalar.Sub(scalar.Add(a, b), b) != scalar.Norm(a) || scalar.Add(scalar.Sub(a, b), b) != scalar.Norm(a) {
				t.Errorf("P4.4: Sub of %x does not undo Add to %x", b, a)
			}
			if scalar.Sub(a, b) != scalar.Add(a, scalar.Neg(b)) {
				t.Errorf("P4.4: Sub of %x is not Add of its negative to %x", b, a)
			}
			if scalar.Sum(a, b) != scalar.Add(a, b) {
				t.Errorf("P4.1: Sum of %x and %x is not Add", a, b)
			}
		}
	}
}

func TestLawsOfTriples(t *testing.T) {
	l := append(edges(), others(6)...)
	for _, a := range l {
		for _, b := range l {
			for _, c := range l {
				if scalar.Add(scalar.Add(a, b), c) != scalar.Add(a, scalar.Add(b, c)) {
					t.Errorf("P4.4: Add is not associative at %x, %x, %x", a, b, c)
				}
				if scalar.Mul(scalar.Mul(a, b), c) != scalar.Mul(a, scalar.Mul(b, c)) {
					t.Errorf("P4.4: Mul is not associative at %x, %x, %x", a, b, c)
				}
				if scalar.Mul(a, scalar.Add(b, c)) != scalar.Add(scalar.Mul(a, b), scalar.Mul(a, c)) {
					t.Errorf("P4.4: Mul does not distribute at %x, %x, %x", a, b, c)
				}
			}
		}
	}
}

func TestInverseMakesOne(t *testing.T) {
	for _, a := range append(numbers(), others(200)...) {
		want := api.Scalar{1}
		if a == (api.Scalar{}) || a == theN {
			want = api.Scalar{}
		}
		if got := scalar.Mul(a, scalar.Inv(a)); got != want {
			t.Errorf("P4.4: Mul(%x, Inv) = %x", a, got)
		}
	}
}

func TestReadOfBytes(t *testing.T) {
	accepted, refused := 0, 0
	for _, a := range append(numbers(), others(200)...) {
		if got, ok := scalar.Read(scalar.Bytes(a)); got != scalar.Norm(a) || !ok {
			t.Errorf("P4.5: Read(Bytes(%x)) = %x, %t", a, got, ok)
		}
		b := written(a)
		got, ok := scalar.Read(b)
		if !ok {
			refused++
			continue
		}
		accepted++
		if scalar.Bytes(got) != b || scalar.Reduce(b) != got {
			t.Errorf("P4.5: Read(%x) = %x, its bytes %x, Reduce %x", b, got, scalar.Bytes(got), scalar.Reduce(b))
		}
	}
	if accepted < 100 || refused < 8 {
		t.Errorf("the test has %d byte strings that Read accepts, and %d others", accepted, refused)
	}
}
