package fe_test

import (
	"math"
	"math/big"
	"math/rand"
	"slices"
	"testing"

	"tollhouse/api"
	"tollhouse/fe"
)

const all = math.MaxUint64 // a word of ones

// gap is 2^256 - p.
const gap = 1<<32 + 977

// p and what lies about it, by their words.
var (
	theP     = api.Fe{0xfffffffefffffc2f, all, all, all}
	lessOne  = api.Fe{0xfffffffefffffc2e, all, all, all}
	moreOne  = api.Fe{0xfffffffefffffc30, all, all, all}
	highest  = api.Fe{all, all, all, all}
	halfMore = api.Fe{0xffffffff7ffffe18, all, all, all >> 1} // (p + 1) / 2
	halfLess = api.Fe{0xffffffff7ffffe17, all, all, all >> 1} // (p - 1) / 2
)

// bigP is p, worked out from its definition.
func bigP() *big.Int {
	n := new(big.Int).Lsh(big.NewInt(1), 256)
	n.Sub(n, new(big.Int).Lsh(big.NewInt(1), 32))
	return n.Sub(n, big.NewInt(977))
}

// value is the number that four words stand for, not taken modulo p.
func value(a api.Fe) *big.Int {
	n := new(big.Int)
	for _, w := range slices.Backward(a[:]) {
		n.Lsh(n, 64)
		n.Add(n, new(big.Int).SetUint64(w))
	}
	return n
}

// words are the four words of a number modulo p.
func words(n *big.Int) api.Fe {
	rest := new(big.Int).Mod(n, bigP())
	var a api.Fe
	for i := range a {
		a[i] = new(big.Int).And(rest, new(big.Int).SetUint64(all)).Uint64()
		rest.Rsh(rest, 64)
	}
	return a
}

// edges are numbers at which a carry, a borrow or p itself may be missed.
func edges() []api.Fe {
	l := []api.Fe{
		{}, {1}, {2}, {3}, {4}, {7}, {976}, {977}, {978}, {1 << 32}, {gap - 1}, {gap}, {gap + 1}, {1 << 63}, {all - 1}, {all},
		{0, 1}, {1, 1}, {all, all}, {0, 0, 1}, {all, all, all}, {0, 0, 0, 1}, {0, 0, 0, 1 << 63}, {all, all, all, all >> 1},
		{0, all, all, all}, {all, 0, all, all}, {all, all, 0, all}, {all, all, all, all - 1}, {0, 0, 0, all}, {0, all, 0, all}, {all, 0, all, 0},
		{0xfffffffefffffc2f, all, all, all - 1}, {0xfffffffefffffc2f, all, all - 1, all}, {0xfffffffefffffc2f, all - 1, all, all}, {0xfffffffefffffc2f}, {0xfffffffefffffc2f, 0, 0, all},
		halfLess, halfMore, lessOne, theP, moreOne, {0xfffffffefffffc2d, all, all, all}, {0xfffffffefffffc31, all, all, all}, {all - 1, all, all, all}, highest,
	}
	return l
}

// others are numbers without a pattern, the same ones each time.
func others(n int) []api.Fe {
	r := rand.New(rand.NewSource(3))
	l := make([]api.Fe, n)
	for i := range l {
		l[i] = api.Fe{r.Uint64(), r.Uint64(), r.Uint64(), r.Uint64()}
	}
	return l
}

func numbers() []api.Fe { return append(edges(), others(40)...) }

// isZero tells whether a number is 0 modulo p.
func isZero(a api.Fe) bool { return a == api.Fe{} || a == theP }

// below fails where a result is not less than p.
func below(t *testing.T, of string, a api.Fe) {
	t.Helper()
	if value(a).Cmp(bigP()) >= 0 {
		t.Errorf("results are less than p: %s = %x", of, a)
	}
}

func TestNorm(t *testing.T) {
	for _, c := range []struct{ a, want api.Fe }{
		{api.Fe{}, api.Fe{}},
		{api.Fe{1}, api.Fe{1}},
		{lessOne, lessOne},
		{theP, api.Fe{}},
		{moreOne, api.Fe{1}},
		{highest, api.Fe{gap - 1}},
		{halfMore, halfMore},
		{api.Fe{1, 2, 3, 4}, api.Fe{1, 2, 3, 4}},
		{api.Fe{all, all, all, all - 1}, api.Fe{all, all, all, all - 1}},
	} {
		if got := fe.Norm(c.a); got != c.want {
			t.Errorf("P3.1: Norm(%x) = %x, want %x", c.a, got, c.want)
		}
	}
	for _, a := range numbers() {
		if got, want := fe.Norm(a), words(value(a)); got != want {
			t.Errorf("P3.1: Norm(%x) = %x, want %x", a, got, want)
		}
	}
}

// Each of the numbers from p to 2^256 - 1 that has a single bit above p is a number of its own below gap.
func TestNormAboveP(t *testing.T) {
	for i := range 33 {
		d := uint64(1) << i
		a := api.Fe{theP[0] + d, all, all, all}
		if got := fe.Norm(a); got != (api.Fe{d}) {
			t.Errorf("P3.1: Norm(p + %d) = %x", d, got)
		}
	}
}

func TestOf(t *testing.T) {
	for _, n := range []uint64{0, 1, 2, 977, 1 << 32, gap - 1, gap, gap + 1, 0xfffffffefffffc2e, 0xfffffffefffffc2f, 1 << 63, all - 1, all} {
		if got := fe.Of(n); got != (api.Fe{n}) {
			t.Errorf("P3.1: Of(%d) = %x", n, got)
		}
	}
}

func TestFewSums(t *testing.T) {
	for _, c := range []struct{ a, b, want api.Fe }{
		{api.Fe{}, api.Fe{}, api.Fe{}},
		{api.Fe{1}, api.Fe{2}, api.Fe{3}},
		{lessOne, api.Fe{1}, api.Fe{}},
		{lessOne, api.Fe{2}, api.Fe{1}},
		{lessOne, lessOne, api.Fe{0xfffffffefffffc2d, all, all, all}},
		{theP, theP, api.Fe{}},
		{theP, api.Fe{5}, api.Fe{5}},
		{highest, highest, api.Fe{2*gap - 2}},
		{highest, api.Fe{1}, api.Fe{gap}},
		{api.Fe{all}, api.Fe{1}, api.Fe{0, 1}},
		{api.Fe{all, all}, api.Fe{1}, api.Fe{0, 0, 1}},
		{api.Fe{all, all, all}, api.Fe{1}, api.Fe{0, 0, 0, 1}},
		{halfLess, halfMore, api.Fe{}},
		{halfMore, halfMore, api.Fe{1}},
	} {
		if got := fe.Add(c.a, c.b); got != c.want {
			t.Errorf("P3.1: Add(%x, %x) = %x, want %x", c.a, c.b, got, c.want)
		}
	}
}

func TestFewDifferences(t *testing.T) {
	for _, c := range []struct{ a, b, want api.Fe }{
		{api.Fe{}, api.Fe{}, api.Fe{}},
		{api.Fe{3}, api.Fe{2}, api.Fe{1}},
		{api.Fe{2}, api.Fe{3}, lessOne},
		{api.Fe{}, lessOne, api.Fe{1}},
		{lessOne, api.Fe{}, lessOne},
		{theP, api.Fe{}, api.Fe{}},
		{api.Fe{}, theP, api.Fe{}},
		{api.Fe{}, highest, api.Fe{0xfffffffefffffc2f - gap + 1, all, all, all}},
		{highest, api.Fe{}, api.Fe{gap - 1}},
		{api.Fe{1}, highest, api.Fe{0xfffffffefffffc2f - gap + 2, all, all, all}},
		{api.Fe{0, 0, 0, 1}, api.Fe{1}, api.Fe{all, all, all}},
	} {
		if got := fe.Sub(c.a, c.b); got != c.want {
			t.Errorf("P3.1: Sub(%x, %x) = %x, want %x", c.a, c.b, got, c.want)
		}
	}
}

func TestFewNegatives(t *testing.T) {
	for _, c := range []struct{ a, want api.Fe }{
		{api.Fe{}, api.Fe{}},
		{api.Fe{1}, lessOne},
		{lessOne, api.Fe{1}},
		{theP, api.Fe{}},
		{moreOne, lessOne},
		{halfLess, halfMore},
		{halfMore, halfLess},
		{highest, api.Fe{0xfffffffefffffc2f - gap + 1, all, all, all}},
	} {
		if got := fe.Neg(c.a); got != c.want {
			t.Errorf("P3.1: Neg(%x) = %x, want %x", c.a, got, c.want)
		}
	}
}

// The last of these were worked out by another program.
func TestFewProducts(t *testing.T) {
	for _, c := range []struct{ a, b, want api.Fe }{
		{api.Fe{}, lessOne, api.Fe{}},
		{api.Fe{1}, lessOne, lessOne},
		{api.Fe{3}, api.Fe{5}, api.Fe{15}},
		{lessOne, lessOne, api.Fe{1}},
		{lessOne, api.Fe{2}, api.Fe{0xfffffffefffffc2d, all, all, all}},
		{theP, highest, api.Fe{}},
		{moreOne, moreOne, api.Fe{1}},
		{highest, highest, api.Fe{(gap - 1) * (gap - 1) & all, 1}},
		{api.Fe{0, 0, 1}, api.Fe{0, 0, 1}, api.Fe{gap}},
		{api.Fe{0, 0, 0, 1}, api.Fe{0, 0, 0, 1}, api.Fe{0, 0, gap}},
		{api.Fe{all}, api.Fe{all}, api.Fe{1, all - 1}},
		{api.Fe{2}, halfMore, api.Fe{1}},
		{
			api.Fe{0x97b750923ceb3ffd, 0x216363698b529b4a, 0xea7b5bf55eb561a4, 0x795b929e9a9a80fd},
			api.Fe{0x94b2b8fda02f34a6, 0x9b08923d10c67fd9, 0xe8a8529f035efa25, 0x781f9c58d6645fa9},
			api.Fe{0x0fb6951cffad9745, 0x84c3ee530c829aa8, 0x8fa48c0d9f558018, 0x87b4e7700d616a90},
		},
		{
			api.Fe{0x8d0038ec42650644, 0x311624273bfd1d33, 0xb7970386fee29476, 0x8a7d43b578633074},
			api.Fe{0x8cb4a0d7d6225675, 0x65aa9c8279f248b0, 0xdc6bf1e1a399f82a, 0x3b5f3d86268ecc45},
			api.Fe{0x27ffc3c4a51b4483, 0x8a9a6de2f2e2fb3e, 0xd284f168f74639a4, 0xd29d9ffa67a60129},
		},
	} {
		if got := fe.Mul(c.a, c.b); got != c.want {
			t.Errorf("P3.1: Mul(%x, %x) = %x, want %x", c.a, c.b, got, c.want)
		}
	}
}

// checkPair holds what is made of two numbers against what package big makes of them.
func checkPair(t *testing.T, a, b api.Fe) {
	t.Helper()
	n, x, y := new(big.Int), value(a), value(b)
	if got, want := fe.Add(a, b), words(n.Add(x, y)); got != want {
		t.Errorf("P3.1: Add(%x, %x) = %x, want %x", a, b, got, want)
	}
	if got, want := fe.Sub(a, b), words(n.Sub(x, y)); got != want {
		t.Errorf("P3.1: Sub(%x, %x) = %x, want %x", a, b, got, want)
	}
	if got, want := fe.Mul(a, b), words(n.Mul(x, y)); got != want {
		t.Errorf("P3.1: Mul(%x, %x) = %x, want %x", a, b, got, want)
	}
}

func TestEveryPair(t *testing.T) {
	l := numbers()
	for _, a := range l {
		if got, want := fe.Neg(a), words(new(big.Int).Neg(value(a))); got != want {
			t.Errorf("P3.1: Neg(%x) = %x, want %x", a, got, want)
		}
		for _, b := range l {
			checkPair(t, a, b)
		}
	}
}

// Words that are each 0, all ones or of no pattern are those where carries go far.
func TestPairsOfOddWords(t *testing.T) {
	r := rand.New(rand.NewSource(31))
	pick := func() api.Fe {
		var a api.Fe
		for i := range a {
			a[i] = []uint64{0, 1, gap, all - gap, all - gap + 1, all - 1, all, r.Uint64()}[r.Intn(8)]
		}
		return a
	}
	for range 20000 {
		checkPair(t, pick(), pick())
	}
}

// A product that is near 0 or near p modulo p comes from folding near p or near 2^256, which numbers picked blindly never reach.
func TestProductsNearTheEdge(t *testing.T) {
	var wanted []*big.Int
	for _, n := range []uint64{0, 1, 2, gap - 2, gap - 1, gap, gap + 1, 2 * gap, 3*gap - 1, 1 << 40, 1 << 60, all} {
		wanted = append(wanted, new(big.Int).SetUint64(n), new(big.Int).Neg(new(big.Int).SetUint64(n)))
	}
	for bits := uint(64); bits < 72; bits++ {
		wanted = append(wanted, new(big.Int).Lsh(big.NewInt(1), bits), new(big.Int).Neg(new(big.Int).Lsh(big.NewInt(1), bits)))
	}
	for _, a := range numbers() {
		inverse := new(big.Int).ModInverse(value(a), bigP())
		if inverse == nil {
			continue
		}
		for _, want := range wanted {
			b := words(new(big.Int).Mul(want, inverse))
			if got := fe.Mul(a, b); got != words(want) {
				t.Errorf("P3.1: Mul(%x, %x) = %x, want %x", a, b, got, words(want))
			}
		}
	}
}

// The last of these were worked out by another program.
func TestFewInverses(t *testing.T) {
	for _, c := range []struct{ a, want api.Fe }{
		{api.Fe{}, api.Fe{}},
		{theP, api.Fe{}},
		{api.Fe{1}, api.Fe{1}},
		{moreOne, api.Fe{1}},
		{lessOne, lessOne},
		{api.Fe{2}, halfMore},
		{halfMore, api.Fe{2}},
		{
			api.Fe{0x97b750923ceb3ffd, 0x216363698b529b4a, 0xea7b5bf55eb561a4, 0x795b929e9a9a80fd},
			api.Fe{0x0ea86c78a2be009f, 0x4e944639b9e1aacf, 0x6e6aea0082f996ea, 0x2afbab109b368aa1},
		},
		{
			api.Fe{0x8d0038ec42650644, 0x311624273bfd1d33, 0xb7970386fee29476, 0x8a7d43b578633074},
			api.Fe{0x3c3957777955a2d0, 0x541c558aad71c9ab, 0x8a7dd98a3e1f48f6, 0x2008ad2b2bcfaf11},
		},
	} {
		if got := fe.Inv(c.a); got != c.want {
			t.Errorf("P3.2: Inv(%x) = %x, want %x", c.a, got, c.want)
		}
	}
}

func TestEveryInverse(t *testing.T) {
	for _, a := range numbers() {
		want := api.Fe{}
		if n := new(big.Int).ModInverse(value(a), bigP()); n != nil {
			want = words(n)
		}
		if got := fe.Inv(a); got != want {
			t.Errorf("P3.2: Inv(%x) = %x, want %x", a, got, want)
		}
	}
}

// The last of these were worked out by another program.
func TestFewRoots(t *testing.T) {
	for _, c := range []struct {
		a, want api.Fe
		ok      bool
	}{
		{api.Fe{}, api.Fe{}, true},
		{theP, api.Fe{}, true},
		{api.Fe{1}, lessOne, true},
		{moreOne, lessOne, true},
		{api.Fe{4}, api.Fe{2}, true},
		{api.Fe{theP[0] + 4, all, all, all}, api.Fe{2}, true},
		{api.Fe{9}, api.Fe{0xfffffffefffffc2c, all, all, all}, true},
		{api.Fe{16}, api.Fe{4}, true},
		{lessOne, api.Fe{}, false},
		{api.Fe{3}, api.Fe{}, false},
		{api.Fe{theP[0] + 3, all, all, all}, api.Fe{}, false},
		{api.Fe{5}, api.Fe{}, false},
		{api.Fe{6}, api.Fe{}, false},
		{api.Fe{7}, api.Fe{}, false},
		{api.Fe{10}, api.Fe{}, false},
		{api.Fe{2}, api.Fe{0x21c57952c0c4a838, 0xecd9ab96d3c01148, 0x4e124bcfd3ee8275, 0xdef386fa8c9cdca6}, true},
		{api.Fe{8}, api.Fe{0xbc750d587e76a7ee, 0x264ca8d2587fdd6f, 0x63db68605822fb14, 0x4218f20ae6c646b3}, true},
		{
			api.Fe{0xc7b317d94d1fe09f, 0xd2d5844307f062ce, 0x44f9794cdd933160, 0x9841811779061596},
			api.Fe{0xd798fb72a5654be0, 0x2fbda721db817f9d, 0x7c333904b8fd52d0, 0xf371235f92c58c6b},
			true,
		},
		{api.Fe{0xeb8f624fb804d820, 0x633a50eee0f9e038, 0xc9c18070b6d13089, 0x6d4b9adbebcd1f5e}, api.Fe{}, false},
		{
			api.Fe{0xba6676b3651c5253, 0x93b05a04cd085b71, 0xf6ced90a71d2af72, 0x2257989fef829c88},
			api.Fe{0x16ed5282df32a078, 0xa5548a9c524f235a, 0xf293c432b052c9b3, 0xce348912c5f8481c},
			true,
		},
	} {
		if got, ok := fe.Sqrt(c.a); got != c.want || ok != c.ok {
			t.Errorf("P3.2: Sqrt(%x) = %x, %t, want %x, %t", c.a, got, ok, c.want, c.ok)
		}
	}
}

func TestEveryRoot(t *testing.T) {
	roots, none := 0, 0
	for _, a := range append(numbers(), others(200)...) {
		want := api.Fe{}
		n := new(big.Int).ModSqrt(new(big.Int).Mod(value(a), bigP()), bigP())
		if n != nil && n.Bit(0) == 1 {
			n.Sub(bigP(), n)
		}
		if n != nil {
			want = words(n)
			roots++
		} else {
			none++
		}
		if got, ok := fe.Sqrt(a); got != want || ok != (n != nil) {
			t.Errorf("P3.2: Sqrt(%x) = %x, %t, want %x, %t", a, got, ok, want, n != nil)
		}
	}
	if roots < 50 || none < 50 {
		t.Errorf("the test has %d numbers with a root, and %d without", roots, none)
	}
}

func TestOdd(t *testing.T) {
	for _, c := range []struct {
		a    api.Fe
		want bool
	}{
		{api.Fe{}, false},
		{api.Fe{1}, true},
		{api.Fe{2}, false},
		{lessOne, false},
		{theP, false},
		{moreOne, true},
		{highest, false},
		{api.Fe{all - 1, all, all, all}, true},
		{api.Fe{all, all, all, all - 1}, true},
		{api.Fe{0, 1, 1, 1}, false},
		{api.Fe{1 << 63, 0, 0, 1 << 63}, false},
	} {
		if got := fe.Odd(c.a); got != c.want {
			t.Errorf("P3.3: Odd(%x) = %t", c.a, got)
		}
	}
	for _, a := range numbers() {
		n := new(big.Int).Mod(value(a), bigP())
		if got, want := fe.Odd(a), n.Bit(0) == 1; got != want {
			t.Errorf("P3.3: Odd(%x) = %t", a, got)
		}
	}
}

// row are the 32 bytes from 1 to 32, whose words are rowWords.
func row() [32]byte {
	var b [32]byte
	for i := range b {
		b[i] = byte(i + 1)
	}
	return b
}

var rowWords = api.Fe{0x191a1b1c1d1e1f20, 0x1112131415161718, 0x090a0b0c0d0e0f10, 0x0102030405060708}

// written are the bytes of a number below 2^256.
func written(n *big.Int) [32]byte {
	var b [32]byte
	n.FillBytes(b[:])
	return b
}

func TestBytes(t *testing.T) {
	if got := fe.Bytes(rowWords); got != row() {
		t.Errorf("P3.3: Bytes = %x", got)
	}
	if got := fe.Bytes(theP); got != [32]byte{} {
		t.Errorf("P3.3: Bytes(p) = %x", got)
	}
	if got := fe.Bytes(moreOne); got != [32]byte{31: 1} {
		t.Errorf("P3.3: Bytes(p + 1) = %x", got)
	}
	for _, a := range numbers() {
		want := written(new(big.Int).Mod(value(a), bigP()))
		if got := fe.Bytes(a); got != want {
			t.Errorf("P3.3: Bytes(%x) = %x, want %x", a, got, want)
		}
	}
}

func TestRead(t *testing.T) {
	if got, ok := fe.Read(row()); got != rowWords || !ok {
		t.Errorf("P3.3: Read = %x, %t", got, ok)
	}
	for _, c := range []struct {
		a  api.Fe
		ok bool
	}{
		{api.Fe{}, true},
		{api.Fe{1}, true},
		{lessOne, true},
		{theP, false},
		{moreOne, false},
		{api.Fe{all - 1, all, all, all}, false},
		{highest, false},
		{api.Fe{all, all, all, all - 1}, true},
		{api.Fe{all, all, all - 1, all}, true},
		{api.Fe{all, all - 1, all, all}, true},
	} {
		want := c.a
		if !c.ok {
			want = api.Fe{}
		}
		if got, ok := fe.Read(written(value(c.a))); got != want || ok != c.ok {
			t.Errorf("P3.3: Read of the bytes of %x = %x, %t", c.a, got, ok)
		}
	}
	for _, a := range numbers() {
		want, less := a, value(a).Cmp(bigP()) < 0
		if !less {
			want = api.Fe{}
		}
		if got, ok := fe.Read(written(value(a))); got != want || ok != less {
			t.Errorf("P3.3: Read of the bytes of %x = %x, %t", a, got, ok)
		}
	}
}

// Each bit of the bytes belongs to one bit of the words.
func TestReadAndBytesBitByBit(t *testing.T) {
	for i := range 256 {
		var b [32]byte
		b[31-i/8] = 1 << (i % 8)
		var a api.Fe
		a[i/64] = 1 << (i % 64)
		if got, ok := fe.Read(b); got != a || !ok {
			t.Errorf("P3.3: Read of 2^%d = %x, %t", i, got, ok)
		}
		if got := fe.Bytes(a); got != b {
			t.Errorf("P3.3: Bytes of 2^%d = %x", i, got)
		}
	}
}

func TestResultsAreLessThanP(t *testing.T) {
	l := numbers()
	for i, a := range l {
		b := l[len(l)-1-i]
		below(t, "Norm", fe.Norm(a))
		below(t, "Of", fe.Of(a[0]))
		below(t, "Add", fe.Add(a, b))
		below(t, "Add", fe.Add(a, a))
		below(t, "Sub", fe.Sub(a, b))
		below(t, "Sub", fe.Sub(a, a))
		below(t, "Neg", fe.Neg(a))
		below(t, "Mul", fe.Mul(a, b))
		below(t, "Mul", fe.Mul(a, a))
		below(t, "Inv", fe.Inv(a))
		root, _ := fe.Sqrt(a)
		below(t, "Sqrt", root)
		read, _ := fe.Read(written(value(a)))
		below(t, "Read", read)
	}
}

// Whatever words stand for a number, they are that number.
func TestWordsOfOneNumber(t *testing.T) {
	for d := range uint64(20) {
		a, b := api.Fe{d}, api.Fe{theP[0] + d, all, all, all}
		for _, c := range numbers() {
			if fe.Add(a, c) != fe.Add(b, c) || fe.Add(c, a) != fe.Add(c, b) || fe.Sub(a, c) != fe.Sub(b, c) || fe.Sub(c, a) != fe.Sub(c, b) || fe.Mul(a, c) != fe.Mul(b, c) || fe.Mul(c, a) != fe.Mul(c, b) {
				t.Errorf("P3.1: %d and p + %d with %x are not the same", d, d, c)
			}
		}
		root, ok := fe.Sqrt(a)
		other, okToo := fe.Sqrt(b)
		if fe.Neg(a) != fe.Neg(b) || fe.Inv(a) != fe.Inv(b) || root != other || ok != okToo || fe.Odd(a) != fe.Odd(b) || fe.Bytes(a) != fe.Bytes(b) {
			t.Errorf("P3.1 to P3.3: %d and p + %d are not the same", d, d)
		}
	}
}

func TestLawsOfPairs(t *testing.T) {
	l := numbers()
	for _, a := range l {
		for _, b := range l {
			if fe.Add(a, b) != fe.Add(b, a) {
				t.Errorf("P3.4: Add of %x and %x hangs on their order", a, b)
			}
			if fe.Mul(a, b) != fe.Mul(b, a) {
				t.Errorf("P3.4: Mul of %x and %x hangs on their order", a, b)
			}
			if fe.Sub(fe.Add(a, b), b) != fe.Norm(a) || fe.Add(fe.Sub(a, b), b) != fe.Norm(a) {
				t.Errorf("P3.4: Sub of %x does not undo Add to %x", b, a)
			}
			if fe.Sub(a, b) != fe.Add(a, fe.Neg(b)) {
				t.Errorf("P3.4: Sub of %x is not Add of its negative to %x", b, a)
			}
		}
	}
}

func TestLawsOfTriples(t *testing.T) {
	l := append(edges(), others(6)...)
	for _, a := range l {
		for _, b := range l {
			for _, c := range l {
				if fe.Add(fe.Add(a, b), c) != fe.Add(a, fe.Add(b, c)) {
					t.Errorf("P3.4: Add is not associative at %x, %x, %x", a, b, c)
				}
				if fe.Mul(fe.Mul(a, b), c) != fe.Mul(a, fe.Mul(b, c)) {
					t.Errorf("P3.4: Mul is not associative at %x, %x, %x", a, b, c)
				}
				if fe.Mul(a, fe.Add(b, c)) != fe.Add(fe.Mul(a, b), fe.Mul(a, c)) {
					t.Errorf("P3.4: Mul does not distribute at %x, %x, %x", a, b, c)
				}
			}
		}
	}
}

func TestInverseMakesOne(t *testing.T) {
	for _, a := range append(numbers(), others(200)...) {
		want := api.Fe{1}
		if isZero(a) {
			want = api.Fe{}
		}
		if got := fe.Mul(a, fe.Inv(a)); got != want {
			t.Errorf("P3.4: Mul(%x, Inv) = %x", a, got)
		}
	}
}

func TestSquareOfRoot(t *testing.T) {
	for _, a := range append(numbers(), others(200)...) {
		root, ok := fe.Sqrt(a)
		if ok && (fe.Mul(root, root) != fe.Norm(a) || root[0]%2 != 0) {
			t.Errorf("P3.5: Sqrt(%x) = %x", a, root)
		}
		// p is 3 modulo 4, so that of a number and its negative one has a root.
		if _, neg := fe.Sqrt(fe.Neg(a)); !isZero(a) && neg == ok {
			t.Errorf("P3.2: Sqrt of %x and of its negative: %t, %t", a, ok, neg)
		}
	}
}

func TestRootOfSquare(t *testing.T) {
	for _, a := range append(numbers(), others(200)...) {
		root, ok := fe.Sqrt(fe.Mul(a, a))
		if !ok || root != fe.Norm(a) && root != fe.Neg(a) || root[0]%2 != 0 {
			t.Errorf("P3.5: Sqrt of the square of %x = %x, %t", a, root, ok)
		}
	}
}

func TestReadOfBytes(t *testing.T) {
	for _, a := range append(numbers(), others(200)...) {
		if got, ok := fe.Read(fe.Bytes(a)); got != fe.Norm(a) || !ok {
			t.Errorf("P3.5: Read(Bytes(%x)) = %x, %t", a, got, ok)
		}
		b := written(value(a))
		if got, ok := fe.Read(b); ok && fe.Bytes(got) != b {
			t.Errorf("P3.5: Bytes(Read(%x)) = %x", b, fe.Bytes(got))
		}
	}
}
