package rangep_test

import (
	"encoding/hex"
	"math"
	"slices"
	"testing"

	"tollhouse/api"
	"tollhouse/commit"
	"tollhouse/curve"
	"tollhouse/rangep"
	"tollhouse/scalar"
	"tollhouse/sha"
)

const all = math.MaxUint64 // a word of ones

// The lower words of n; above them stand all - 1, and all.
const (
	n0 = 0xbfd25e8cd0364141
	n1 = 0xbaaedce6af48a03b
)

var (
	none    = api.Scalar{}
	one     = api.Scalar{1}
	lessOne = api.Scalar{n0 - 1, n1, all - 1, all}
	order   = api.Scalar{n0, n1, all - 1, all}
	moreOne = api.Scalar{n0 + 1, n1, all - 1, all}
	highest = api.Scalar{all, all, all, all}
	firstK  = api.Scalar{0x89137f8c94d53e8a, 0x887bcdf4562a07b2, 0x46537b8b31d6962a, 0x6efa404701ae2518}
	secondK = api.Scalar{0x8bdcd69e321a41f2, 0xe8aafcd7fdb2b6f1, 0x0ea7688cf8c4ff85, 0xa3420f3cf8995d84}
)

// The names of four assets.
var (
	noName = api.Digest{}
	peg    = api.Digest(counted(32))
	gold   = api.Digest(slices.Repeat([]byte{255}, 32))
	last   = api.Digest{31: 1}
)

var (
	noSeed = api.Digest{}
	seed   = api.Digest(counted(32))
	ones   = api.Digest(slices.Repeat([]byte{255}, 32))
)

var (
	base = curve.Base()
	zero = api.Point{Inf: true}
)

// counted are so many bytes that count up.
func counted(many int) []byte {
	b := make([]byte, many)
	for i := range b {
		b[i] = byte(i)
	}
	return b
}

// lengthOf is how many bytes a proof of so many bits has.
func lengthOf(bits int) int { return 1 + 33*(bits/2-1) + 32 + 128*(bits/2) }

type proved struct {
	seed api.Digest
	o    api.Opening
	bits int
	want string // of the proof; where it is long, the SHA-256 digest of it
}

func (c proved) asset() api.Point { return commit.Asset(c.o.Asset, c.o.Tag) }

func (c proved) amount() api.Point { return commit.Value(c.o.Value, c.asset(), c.o.Amount) }

// made is a proof where there is one.
func (c proved) made(t *testing.T) []byte {
	t.Helper()
	p, code := rangep.Prove(c.seed, c.o, c.bits)
	if code != api.OK {
		t.Fatalf("P9.1: Prove(%x, %+v, %d): error %d", c.seed, c.o, c.bits, code)
	}
	return p
}

// rewound is for what Prove, or another one by the same seed, has made.
func (c proved) rewound(t *testing.T, p []byte) {
	t.Helper()
	if !rangep.Verify(c.amount(), c.asset(), p) {
		t.Errorf("P9.2, P9.5: %+v, %d bits: Verify = false", c.o, c.bits)
	}
	value, blind, ok := rangep.Rewind(c.seed, c.amount(), c.asset(), p)
	if value != c.o.Value || blind != scalar.Norm(c.o.Amount) || !ok {
		t.Errorf("P9.3, P9.5: %+v, %d bits: Rewind = %d, %x, %v", c.o, c.bits, value, blind, ok)
	}
	if commit.Value(value, c.asset(), blind) != c.amount() || value>>rangep.Bits(p) != 0 {
		t.Errorf("P9.6: %+v, %d bits: Rewind = %d, %x", c.o, c.bits, value, blind)
	}
	if got := rangep.Bits(p); got != c.bits {
		t.Errorf("P9.4: %+v: Bits = %d, want %d", c.o, got, c.bits)
	}
}

// proofs were worked out by another program.
func proofs() []proved {
	return []proved{
		{noSeed, api.Opening{Asset: peg, Value: 0, Tag: none, Amount: one}, 2, "01921ad6a3baef8d0a12e7dce00731e96cf36aed90d4aaa5dfa09511d9e2c33e4e091900372f17c6e5fb2d17fb3e0e8cebc388d370b0df75b9dc1a4039fa972c115c8b04a945f7a4952470fcd85a7929bda29c4c312963d0655266a0c9eeb5417eaf011448718f312037c443d3fc8b9f27d50bf09059c1de6da18b9c47a9e348cdbba25e421cd3876ec2473bdd188618a37da3f58c98d9f85ecc4199c79cdba926"},
		{seed, api.Opening{Asset: peg, Value: 0, Tag: firstK, Amount: secondK}, 2, "011458ca1f37a416f88b2e12988644bb059707c160c4f2de37b12c1fb84ddc438a8ed8fbb2e78ce7a0582320fc6052cfbbcef8c61e8a135a2cec29b7135ff23e8d6236bdcdac6b14a4871dc7498e2dea8b5dcdfab10448c4f37d7291ff8b6ab5a3d55d937eb6ba4cafaf60811cace71c5b4eb7e66359aa3ad698b40424f44144dbccd1c93c301a965c493120207d2a9e9272bc9f8b360f0d56da21c9aa9c7ed4a1"},
		{seed, api.Opening{Asset: peg, Value: 1, Tag: firstK, Amount: secondK}, 2, "0157982e5be854d3662b62664a884e7035111335b21c600a5bb07ef69432594f34ace68dc0685e592538975e4940f277e15fe2cec42732fa0294d13981b8c7e48801285b6580e3ffec5a18b1ba3efb064feefaf65255a955efa109220634bd07d1a1307b76aedeb9773f9f34798645186ac8bfb20c7ff305fc504a80b9b9e08f69aa741d501506e0af031d2dedd5da5e5dc61a91b5ee7373450ab22e8f66cf4474"},
		{seed, api.Opening{Asset: peg, Value: 2, Tag: firstK, Amount: secondK}, 2, "01ef09e25e6da6244a01d34442acae87f345955485ca3ffc7db004d91d2685f723e71ea53da48d7660b416de76bb2d488fcfe8247fa25cb71c9a8f3efaadf2e5adac2248c357191c9b227471cca0d33207c55af02ca3e22b54617794469cfe7fb77cc7c1b7a7d0031099e6e79c0b334e062fcfc5a210caad5182652a120996bf0da60df3374f8ddee7c64b4f0add4d2b1430c67ea8bdd9a463dc3675f79ee1fe97"},
		{seed, api.Opening{Asset: peg, Value: 3, Tag: firstK, Amount: secondK}, 2, "010cccaf8cf0a321e12909cda162ef878b9d976fcc96dc71a0c45d848a8ac2b75ba57f52db9c7510268ca87a3f303b9fc895caa04932646a13bf0b70a3575666e3dd4f3bf0f813744467fefe55351493c535ff86c81e6ecb440af4b1247958fb9ab9bb24655235ff44e17f16222a9c3ee7611d1b80d8edc04c70832f175de3ed3ee6d2c15c71d9873c6a141b74394083a0312e3406a3d875ba6e68b46283dcb8b5"},
		{seed, api.Opening{Asset: peg, Value: 1, Tag: none, Amount: none}, 2, "014b807ac44b429e56411b732aba18f1115504ce9085773868c99348bb820c83e40f0faae22ce6b47e90672529a40651342682424520160684cf88205dd75b04ab164fae9ce23b93bb9248a68e08a427d618c91a398736bfcec4dc377901ea1a53eeb457edfa10e9701a7d0e4272f22077fe06233cd8a10e81ed99a1a2414cd2e26debce9254f157e8aa068891a69b7e92a2b8fa5a0c38af92884bae41f77b0796"},
		{ones, api.Opening{Asset: gold, Value: 3, Tag: none, Amount: order}, 2, "0145d6c5587cdc9fc757a8d482a50b9427f5be612003b35489653d00c4905d230756fd91dff8c9d38d4f5d84f264c2b6f1846b5f4d3e851d3afb87ac08c9f287b02409360203e1ba5339b6ff1d786a71f3c056abf7af6e4901aa67018207db4a2661e958f27c236fa060ebb5cf0427f2e998f898696c33c2ce3ff622466eb609d75ae5e8c2f44d829ae2f9baa451da8d6b5da129e935835a89161aacb482325032"},
		{seed, api.Opening{Asset: noName, Value: 3, Tag: one, Amount: lessOne}, 2, "01b89877e329159b9fbe4db2995674dae4e49cefc712885b1292d62a217f6d1ab10553dd19bcecab2f5a47ddaa981f3cf641316022bfd3be06ea4fc9df71e1e6f94f530bced07a799676b463a3d44f8baeb059c9ed749591e509e2730f49e2ebfa85af9609c6f2a8407123e48274c0b0fe2283d369ce3f67079bc0469e4267d189b5a2f8e0e4a0d8c3edde85b6676249a26e1bd8b59642671981953d7559ace683"},
		{seed, api.Opening{Asset: peg, Value: 3, Tag: firstK, Amount: secondK}, 4, "4bd212f7573ae1c8ea3f5f810f1dd77167c188f3a90cd1be1bce19f5438489a0"},
		{seed, api.Opening{Asset: peg, Value: 4, Tag: firstK, Amount: secondK}, 4, "8078965b366fffc7d42bb18894b5bd2cd8a7bc96550d4cb1121249c6e8b3c67e"},
		{ones, api.Opening{Asset: last, Value: 15, Tag: highest, Amount: highest}, 4, "0b8674e8d022b1f6a087e3b6a2316d01622e5bc99f1201d741e0af291d24ff4c"},
		{seed, api.Opening{Asset: gold, Value: 6, Tag: moreOne, Amount: none}, 4, "5484417248d97569c83b61174e909d5b407296d1d3f37911aa572c31a5b2e2ac"},
		{seed, api.Opening{Asset: peg, Value: 0, Tag: firstK, Amount: secondK}, 8, "9139220dfd438441202d9e88526376d2a9ebaf934e11939bbdf536e788432337"},
		{seed, api.Opening{Asset: peg, Value: 5, Tag: firstK, Amount: secondK}, 8, "204177896a9227fc3e2b718d9f3267c265be5cdbad2abdc0dd7ea863a0831df2"},
		{seed, api.Opening{Asset: peg, Value: 228, Tag: firstK, Amount: secondK}, 8, "7b4cfba0c940242dcdd33bfc499c15b7e933e70781b35257846e2487a3fc0d81"},
		{seed, api.Opening{Asset: peg, Value: 27, Tag: order, Amount: firstK}, 8, "ac3cecace81374576cb43ad834f0715e35c9dcae9a32b96dea59b582c9a737a5"},
		{noSeed, api.Opening{Asset: gold, Value: 255, Tag: secondK, Amount: lessOne}, 8, "63fb397bbb9ffc620033e7c3b2f8fa1987536bcc862bf73b8f2012772789ed98"},
		{ones, api.Opening{Asset: noName, Value: 0x7b1, Tag: none, Amount: highest}, 12, "b1fa5c290f4aa44d9e304d4552221118aaf6266a97a2574bf1022831a5ffd8cc"},
		{seed, api.Opening{Asset: peg, Value: 0xffffffff, Tag: firstK, Amount: secondK}, 32, "941feafb05d7c58ad9b8924e22ea944851d4c0168bbffc02410733f69f7324e7"},
		{seed, api.Opening{Asset: last, Value: 0x1b1b1b1b, Tag: firstK, Amount: moreOne}, 32, "929ed46289fba0d7dc49c772f836baffe87dfb445b6bbf72c1c349a1d79daf2a"},
		{seed, api.Opening{Asset: peg, Value: 1 << 61, Tag: firstK, Amount: secondK}, 62, "be1a3727cdae5ebd6313e5e3397dac6cb662421ad276a6221c66b0004aa44b74"},
		{seed, api.Opening{Asset: peg, Value: 0, Tag: firstK, Amount: secondK}, 64, "90e2d4bbb999cdd9becc3dda77744c523a967edc5870e2457ccffa89632dea47"},
		{seed, api.Opening{Asset: peg, Value: 1, Tag: none, Amount: one}, 64, "1041727138abc4eac2669b3a71fc510fb0632eeac60ce7c63d23eb6aa181e855"},
		{ones, api.Opening{Asset: peg, Value: 1 << 63, Tag: secondK, Amount: none}, 64, "7de4a6e10d6b91e114ccf9c1edb3c04d156adb62d1f4960ac2cfa3d1e1046095"},
		{seed, api.Opening{Asset: gold, Value: 0x123456789abcdef1, Tag: firstK, Amount: secondK}, 64, "d3e8368fece5c81254d1c38f141e5f65b1e7f20dfb32ee3d30fec06d96c450d4"},
		{noSeed, api.Opening{Asset: last, Value: all, Tag: highest, Amount: highest}, 64, "0ab07dfccfdeef54fe2be7b12448ac782e7205c7b47f0b15945581bacf86b130"},
		{seed, api.Opening{Asset: peg, Value: all - 1, Tag: none, Amount: lessOne}, 64, "d0b64d9dd702b8b64d72e6f4ae143ec8c14fb6ba1f82a165a90aade2ca0b66bb"},
	}
}

func TestProve(t *testing.T) {
	t.Parallel()
	for _, c := range proofs() {
		p := c.made(t)
		digest := sha.Of(p)
		if hex.EncodeToString(p) != c.want && hex.EncodeToString(digest[:]) != c.want {
			t.Errorf("P9.1: Prove(%x, %+v, %d) = %.200x, want %s", c.seed, c.o, c.bits, p, c.want)
		}
		if len(p) != lengthOf(c.bits) || int(p[0]) != c.bits/2 {
			t.Errorf("P9.1: Prove(%x, %+v, %d): %d bytes, the first one %d", c.seed, c.o, c.bits, len(p), p[0])
		}
		c.rewound(t, p)
	}
}

// The commitments that stand in a proof, told by the tests' own words.
func TestProveParts(t *testing.T) {
	t.Parallel()
	for _, c := range proofs() {
		p := c.made(t)
		for i := range c.bits/2 - 1 {
			blind := scalar.Reduce(sha.Tagged("tollhouse/digit", append(slices.Clone(c.seed[:]), byte(i))))
			digit := c.o.Value / uint64(math.Pow(4, float64(i))) % 4
			of := curve.Mul(scalar.Of(uint64(math.Pow(4, float64(i)))), c.asset())
			want := curve.Encode(curve.Add(curve.Mul(scalar.Of(digit), of), curve.Mul(blind, base)))
			if got := p[1+33*i:][:33]; !slices.Equal(got, want[:]) {
				t.Errorf("P9.1: Prove(%x, %+v, %d): point %d is %x, want %x", c.seed, c.o, c.bits, i, got, want)
			}
		}
	}
}

// All bits that there may be, with 0 and the greatest value of so many.
func TestProveBits(t *testing.T) {
	t.Parallel()
	for bits := 2; bits <= 64; bits += 2 {
		top := uint64(all) >> (64 - bits)
		for _, value := range []uint64{0, top} {
			c := proved{ones, api.Opening{Asset: gold, Value: value, Tag: firstK, Amount: secondK}, bits, ""}
			p := c.made(t)
			if len(p) != lengthOf(bits) {
				t.Errorf("P9.1: Prove of %d bits: %d bytes", bits, len(p))
			}
			c.rewound(t, p)
		}
	}
}

func TestProveEach(t *testing.T) {
	t.Parallel()
	scalars := []api.Scalar{none, one, lessOne, order, moreOne, highest, firstK, secondK}
	for i, tag := range scalars {
		for j, amount := range scalars {
			value := uint64(i*len(scalars) + j)
			c := proved{api.Digest{byte(i), byte(j)}, api.Opening{Asset: last, Value: value, Tag: tag, Amount: amount}, 6, ""}
			if value == 0 {
				continue
			}
			c.rewound(t, c.made(t))
		}
	}
	for value := range uint64(16) {
		c := proved{seed, api.Opening{Asset: peg, Value: value, Tag: secondK, Amount: firstK}, 4, ""}
		c.rewound(t, c.made(t))
	}
}

// Whoever proves the same twice gets the same; scalars are taken modulo n; of another seed, opening or number of bits, the proof is another.
func TestProveHangsOnAll(t *testing.T) {
	o := api.Opening{Asset: peg, Value: 5, Tag: one, Amount: one}
	p := proved{seed, o, 4, ""}.made(t)
	over := o
	over.Tag, over.Amount = moreOne, moreOne
	for _, same := range []api.Opening{o, over} {
		if got := (proved{seed, same, 4, ""}).made(t); !slices.Equal(got, p) {
			t.Errorf("P9.1: the same is proved in two ways: %x, %x", got, p)
		}
	}
	for _, c := range []proved{
		{noSeed, o, 4, ""},
		{seed, o, 6, ""},
		{seed, api.Opening{Asset: gold, Value: 5, Tag: one, Amount: one}, 4, ""},
		{seed, api.Opening{Asset: peg, Value: 6, Tag: one, Amount: one}, 4, ""},
		{seed, api.Opening{Asset: peg, Value: 5, Tag: none, Amount: one}, 4, ""},
		{seed, api.Opening{Asset: peg, Value: 5, Tag: one, Amount: none}, 4, ""},
	} {
		if got := c.made(t); slices.Equal(got[len(got)-32:], p[len(p)-32:]) {
			t.Errorf("P9.1: another proof, %+v, ends as that of %+v", c, o)
		}
	}
}

func refused(t *testing.T, o api.Opening, bits int, want api.Errno) {
	t.Helper()
	for _, s := range []api.Digest{noSeed, seed} {
		if p, code := rangep.Prove(s, o, bits); code != want || len(p) != 0 {
			t.Errorf("P9.1: Prove(%+v, %d) = %x, error %d, want %d", o, bits, p, code, want)
		}
	}
}

func TestProveRangeBits(t *testing.T) {
	l := []int{0, 66, 67, 68, 100, 126, 127, 128, 256, 258, 264, 320, 1<<16 + 2, 1<<32 + 2, 1<<32 + 8, 1<<63 - 2, -1, -2, -3, -64, -254, -256, -1<<32 + 2, math.MaxInt, math.MinInt, math.MinInt + 1, math.MinInt + 2}
	for bits := 1; bits <= 65; bits += 2 {
		l = append(l, bits)
	}
	for _, bits := range l {
		// What else is wrong is not asked for then.
		for _, value := range []uint64{0, 1, 4, 1 << 40, all} {
			refused(t, api.Opening{Asset: peg, Value: value, Tag: firstK, Amount: secondK}, bits, api.ErrRangeBits)
			refused(t, api.Opening{Asset: peg, Value: value}, bits, api.ErrRangeBits)
		}
	}
}

func TestProveRangeValue(t *testing.T) {
	for bits := 2; bits < 64; bits += 2 {
		top := uint64(1)<<bits - 1
		for _, value := range []uint64{top + 1, top + 2, 2*top + 1, 4 * (top + 1), 1 << 63, 1<<63 + 1, all - 1, all} {
			if value <= top {
				continue
			}
			refused(t, api.Opening{Asset: peg, Value: value, Tag: firstK, Amount: secondK}, bits, api.ErrRangeValue)
			refused(t, api.Opening{Asset: gold, Value: value}, bits, api.ErrRangeValue)
		}
	}
}

// Only an amount 0 is known to be Zero where nothing blinds it; the other points that are Zero are tested on inner parts.
func TestProveZero(t *testing.T) {
	for bits := 2; bits <= 64; bits += 2 {
		for _, tag := range []api.Scalar{none, one, firstK, order} {
			refused(t, api.Opening{Asset: peg, Tag: tag}, bits, api.ErrArg)
			refused(t, api.Opening{Asset: noName, Tag: tag, Amount: order}, bits, api.ErrArg)
		}
	}
	for _, o := range []api.Opening{{Asset: peg, Value: 1}, {Asset: peg, Amount: one}, {Asset: peg, Value: 3, Amount: order}} {
		c := proved{seed, o, 2, ""}
		c.rewound(t, c.made(t))
	}
}

// overwritten fills a list up to its capacity.
func overwritten(b []byte) {
	b = b[:cap(b)]
	for i := range b {
		b[i] = 0xee
	}
}

func TestMemory(t *testing.T) {
	c := proved{seed, api.Opening{Asset: peg, Value: 200, Tag: firstK, Amount: secondK}, 8, ""}
	p := c.made(t)
	whole := append(slices.Clone(p), counted(40)...)
	was := slices.Clone(whole)
	c.rewound(t, whole[:len(p)])
	if !slices.Equal(whole, was) {
		t.Error("R5: an argument was changed")
	}
	overwritten(p)
	again := c.made(t)
	if !slices.Equal(again, was[:len(p)]) {
		t.Error("R5: Prove keeps its bytes")
	}
	c.rewound(t, again)
}
