package curve_test

import (
	"crypto/sha256"
	"encoding/hex"
	"math/big"
	"slices"
	"testing"

	"tollhouse/api"
	"tollhouse/curve"
)

const baseX = "79be667ef9dcbbac55a06295ce870b07029bfcdb2dce28d959f2815b16f81798"

// nothing are 32 zero bytes, by their digits.
const nothing = "0000000000000000000000000000000000000000000000000000000000000000"

// The encodings of some points.
var encodings = []struct {
	p    api.Point
	code string
}{
	{zero, "00" + nothing},
	{base, "02" + baseX},
	{minus, "03" + baseX},
	{two, "02c6047f9441ed7d6d3045406e95c07cd85c778e4b8cef3ca7abac09b95c709ee5"},
	{six, "03fff97bd5755eeea420453a14355235d382f6472f8568a18b2f057a1460297556"},
	{firstP, "02f80886be727519f317ba62352a139155e776f554aac347d96ac977603e29e5f4"},
	{secondP, "03efad9b553ec94f6121941b32d490be0bf87d53c8c1d7dbd2493a970d30a5f88e"},
	{lowX, "020000000000000000000000000000000000000000000000000000000000000001"},
	{curve.Neg(lowX), "030000000000000000000000000000000000000000000000000000000000000001"},
	{lowX3, "020000000000000000000000000000000000000000000000000000000000000003"},
	{lowY, "031fe1e5ef3fceb5c135ab7741333ce5a6e80d68167653f6b2b24bcbcfaaaff507"},
	{curve.Neg(lowY), "021fe1e5ef3fceb5c135ab7741333ce5a6e80d68167653f6b2b24bcbcfaaaff507"},
	{lowY6, "02c8b492e17665b9e65e4a124661e1103f1aebfcc849dcd94f7688dcf149f6f4f2"},
}

// The X that no point has: some are not X of the curve, others not less than p, though what is left of them modulo p is an X.
var noX = []string{
	nothing,
	"0000000000000000000000000000000000000000000000000000000000000005",
	"0000000000000000000000000000000000000000000000000000000000000007",
	"0000000000000000000000000000000000000000000000000000000000000009",
	"fffffffffffffffffffffffffffffffffffffffffffffffffffffffefffffc2e", // p - 1
	"fffffffffffffffffffffffffffffffffffffffffffffffffffffffefffffc2d",
	"fffffffffffffffffffffffffffffffffffffffffffffffffffffffefffffc2f", // p
	"fffffffffffffffffffffffffffffffffffffffffffffffffffffffefffffc30",
	"fffffffffffffffffffffffffffffffffffffffffffffffffffffffefffffc31",
	"fffffffffffffffffffffffffffffffffffffffffffffffffffffffefffffc32",
	"fffffffffffffffffffffffffffffffffffffffffffffffffffffffefffffc33",
	"ffffffffffffffffffffffffffffffffffffffffffffffffffffffffffffffff",
}

func TestEncode(t *testing.T) {
	for _, c := range encodings {
		if got := curve.Encode(c.p); hex.EncodeToString(got[:]) != c.code {
			t.Errorf("P5.3: Encode(%s) = %x, want %s", show(c.p), got, c.code)
		}
	}
	for _, p := range invalid() {
		if got := curve.Encode(p); got != [33]byte{} {
			t.Errorf("P5.3: Encode(%s) = %x", show(p), got)
		}
	}
}

// checkDecode fails where Decode does not answer as wanted, or touches its bytes.
func checkDecode(t *testing.T, b []byte, want api.Point, ok bool) {
	t.Helper()
	before := slices.Clone(b)
	got, is := curve.Decode(b)
	if got != want || is != ok {
		t.Errorf("P5.3: Decode(%x) = %s, %t, want %s, %t", b, show(got), is, show(want), ok)
	}
	if !slices.Equal(b, before) {
		t.Errorf("P5.3: Decode has changed its bytes: %x, they were %x", b, before)
	}
}

func TestDecode(t *testing.T) {
	for _, c := range encodings {
		checkDecode(t, bytesOf(c.code), c.p, true)
	}
	checkDecode(t, nil, zero, false)
	checkDecode(t, []byte{}, zero, false)
	for _, x := range noX {
		for _, first := range []string{"02", "03"} {
			checkDecode(t, bytesOf(first+x), zero, false)
		}
	}
}

func TestDecodeFirstByte(t *testing.T) {
	for first := range 256 {
		if first != 2 && first != 3 {
			checkDecode(t, append([]byte{byte(first)}, bytesOf(baseX)...), zero, false)
			checkDecode(t, append([]byte{byte(first)}, bytesOf(noX[1])...), zero, false)
		}
		if first != 0 {
			checkDecode(t, append([]byte{byte(first)}, make([]byte, 32)...), zero, false)
		}
	}
}

// A single byte among 33 that are not all zero does not make an encoding of Zero.
func TestDecodeAboutZero(t *testing.T) {
	for i := range 33 {
		for _, c := range []byte{1, 2, 3, 128, 255} {
			b := make([]byte, 33)
			b[i] = c
			checkDecode(t, b, zero, false)
		}
	}
}

func TestDecodeLength(t *testing.T) {
	long := append(bytesOf("02"+baseX), make([]byte, 40)...)
	for n := range len(long) {
		if n != 33 {
			checkDecode(t, long[:n], zero, false)
			checkDecode(t, make([]byte, n), zero, false)
		}
	}
	checkDecode(t, bytesOf(baseX), zero, false)
	checkDecode(t, bytesOf("0002"+baseX), zero, false)
	checkDecode(t, bytesOf("04"+baseX+"483ada7726a3c4655da4fbfc0e1108a8fd17b448a68554199c47d08ffb10d4b8"), zero, false)
	// What lies behind the 33 bytes counts for nothing.
	checkDecode(t, long[:33], base, true)
}

func checkLift(t *testing.T, x string, want api.Point, ok bool) {
	t.Helper()
	if got, is := curve.Lift(key(x)); got != want || is != ok {
		t.Errorf("P5.4: Lift(%s) = %s, %t, want %s, %t", x, show(got), is, show(want), ok)
	}
}

func TestLift(t *testing.T) {
	checkLift(t, baseX, base, true)
	for _, c := range encodings[1:] {
		want := c.p
		if c.code[:2] == "03" {
			want = curve.Neg(want)
		}
		checkLift(t, c.code[2:], want, true)
	}
	for _, x := range noX {
		checkLift(t, x, zero, false)
	}
}

// Every number from 0 on, and down from p, is held against what package big has for roots.
func TestLiftOfManyNumbers(t *testing.T) {
	p := bigP()
	found, missed := 0, 0
	for i := range int64(400) {
		x := big.NewInt(i / 2)
		if i%2 == 1 {
			x.Sub(p, x)
		}
		square := new(big.Int).Exp(x, big.NewInt(3), p)
		y := new(big.Int).ModSqrt(square.Add(square, big.NewInt(7)), p)
		var b api.Key
		x.FillBytes(b[:])
		if y == nil || x.Cmp(p) >= 0 {
			missed++
			checkLift(t, hex.EncodeToString(b[:]), zero, false)
			continue
		}
		found++
		if y.Bit(0) == 1 {
			y.Sub(p, y)
		}
		checkLift(t, hex.EncodeToString(b[:]), plain{x, y}.point(), true)
	}
	if found < 100 || missed < 100 {
		t.Errorf("%d points and %d X without one are too few", found, missed)
	}
}

func small(n uint16) api.Digest { return api.Digest{30: byte(n >> 8), 31: byte(n)} }

// Worked out by another program. Each of the small names has its point at another of the x(i), from 0 to 10, and at 12 and 18.
func TestFewGenerators(t *testing.T) {
	var row, full api.Digest
	for i := range row {
		row[i], full[i] = byte(i+1), 255
	}
	for _, c := range []struct {
		name api.Digest
		want string
	}{
		{small(1), "024e891b04906b73fcb2f9a75ebb7558c7c53f332bb454d36ad3b9e2f9b56d5707"},
		{small(0), "02d1bac91453d40af5e6214622e4fa65f5dade11ce18dbd2a4388c12898947e881"},
		{small(6), "02decdab70c01429e61ba1d4cdd8bfd03603f534bab3547a9eb9af04d53a216934"},
		{small(10), "026e15df39f879d84b671567a6869fe2737c754949fd95c203d238887ae74027cd"},
		{small(14), "02ab8d8fbed1a98cca0869f1b40ecc1f44e37008d789bca624a15067ceb8f08519"},
		{small(5), "0275e270d9e1da622587414fd639125cfdc7425002d73cc159b389de4b11c884c6"},
		{small(97), "023e69dc001964de40998f84908136d400b2c09f77c945c0e6f376d6a3ddec87b9"},
		{small(771), "027267b4d92b62b2d4a8953ccbc150af42ffc4e52ac699d052b7df5d554c7adecb"},
		{small(436), "02b1b828c008e1bb402274979d3d645b1430de7b66b3d36c2f71f671df413dea2c"},
		{small(356), "020bfeca2eefd4aecfd78e49b376c4ea38250070b4cf015068903e9ac0bd195da4"},
		{small(1666), "02895116be36d3317566eb7d782b95b2e0a66153fa3786a3b7981c84f43763474b"},
		{small(1017), "02102e6bf2cdd80e4fc34ddc90b26bc8c167a6eee083f879b71955b0dedb4b1a17"},
		{small(945), "02944766a2d0b06600560436b496d894d778dc0272c7bef365f46503938d750c0c"},
		{row, "025489b7de4b5b66399ce744c224de6972116b92918d4a28148f2fe5c9f61e263c"},
		{full, "028e0be463efb719c4153fb0c084fcbeb61575810a9bd320163d78c09a2a1bc481"},
	} {
		got := curve.Generator(c.name)
		if b := curve.Encode(got); hex.EncodeToString(b[:]) != c.want || !curve.Right(got) {
			t.Errorf("P5.5: Generator(%x) = %s, want %s", c.name, show(got), c.want)
		}
	}
}

// tagged is a tagged digest, by the library's SHA-256.
func tagged(texts ...[]byte) api.Digest {
	tag := sha256.Sum256([]byte("tollhouse/generator"))
	return sha256.Sum256(slices.Concat(tag[:], tag[:], slices.Concat(texts...)))
}

func TestManyGenerators(t *testing.T) {
	name := api.Digest{7}
	for range 200 {
		want, ok := zero, false
		for i := 0; !ok; i++ {
			want, ok = curve.Lift(api.Key(tagged(name[:], []byte{byte(i)})))
		}
		check(t, "P5.5: Generator", curve.Generator(name), want)
		name = sha256.Sum256(name[:])
	}
}

func TestLawsOfSums(t *testing.T) {
	l := points()
	for _, p := range l {
		for _, q := range l {
			sum := curve.Add(p, q)
			check(t, "P5.6: Add the other way round", curve.Add(q, p), sum)
			check(t, "P5.2: Sum of two", curve.Sum(slices.Values([]api.Point{p, q})), sum)
			for _, r := range l {
				check(t, "P5.6: Add of three", curve.Add(sum, r), curve.Add(p, curve.Add(q, r)))
			}
		}
	}
}

func TestLawsWithInvalidPoints(t *testing.T) {
	for _, p := range invalid() {
		check(t, "P5.6: Add the other way round", curve.Add(p, firstP), curve.Add(firstP, p))
		check(t, "P5.6: Add of three", curve.Add(curve.Add(p, firstP), two), curve.Add(p, curve.Add(firstP, two)))
		check(t, "P5.6: Add of three", curve.Add(curve.Add(firstP, p), two), curve.Add(firstP, curve.Add(p, two)))
		check(t, "P5.6: Mul of a sum", curve.Mul(secondK, curve.Add(p, two)), curve.Add(curve.Mul(secondK, p), curve.Mul(secondK, two)))
		check(t, "P5.6: n times a point", curve.Mul(order, p), zero)
	}
}

// of is a number modulo n by package big.
func of(n *big.Int) api.Scalar { return api.Scalar(words(n.Mod(n, bigN()))) }

func TestLawsOfMultiples(t *testing.T) {
	l := points()
	k := numbers()
	for i, a := range k {
		for j, b := range k {
			p, q := l[(i+3*j)%len(l)], l[(5*i+j+1)%len(l)]
			x, y := value(a), value(b)
			most := curve.Mul(b, p)
			check(t, "P5.6: Mul by a sum", curve.Mul(of(new(big.Int).Add(x, y)), p), curve.Add(curve.Mul(a, p), most))
			check(t, "P5.6: Mul by a product", curve.Mul(of(new(big.Int).Mul(x, y)), p), curve.Mul(a, most))
			check(t, "P5.6: Mul of a sum", curve.Mul(a, curve.Add(p, q)), curve.Add(curve.Mul(a, p), curve.Mul(a, q)))
			check(t, "P5.2: Multi of two", curve.Multi([]api.Term{{K: a, P: q}, {K: b, P: p}}), curve.Add(curve.Mul(a, q), most))
		}
	}
	for _, p := range l {
		check(t, "P5.6: n times a point", curve.Mul(order, p), zero)
		check(t, "P5.6: n - 1 times a point", curve.Mul(lessOne, p), curve.Neg(p))
	}
}

func TestDecodeOfEncode(t *testing.T) {
	for _, p := range append(points(), invalid()...) {
		want := p
		if !curve.Right(p) {
			want = zero
		}
		b := curve.Encode(p)
		if got, ok := curve.Decode(b[:]); got != want || !ok {
			t.Errorf("P5.7: Decode(Encode(%s)) = %s, %t", show(p), show(got), ok)
		}
	}
	p := base
	for range 200 {
		p = curve.Add(p, curve.Neg(firstP))
		b := curve.Encode(p)
		if got, ok := curve.Decode(b[:]); got != p || !ok {
			t.Errorf("P5.7: Decode(Encode(%s)) = %s, %t", show(p), show(got), ok)
		}
	}
}

func TestEncodeOfDecode(t *testing.T) {
	accepted, refused := 0, 0
	d := sha256.Sum256(nil)
	for i := range 1000 {
		b := append([]byte{byte(i % 5)}, d[:]...)
		p, ok := curve.Decode(b)
		if got := curve.Encode(p); ok && !slices.Equal(got[:], b) || !ok && p != zero || !curve.Right(p) {
			t.Errorf("P5.7: Decode(%x) = %s, %t, whose encoding is %x", b, show(p), ok, got)
		}
		if ok {
			accepted++
		} else {
			refused++
		}
		d = sha256.Sum256(d[:])
	}
	if accepted < 100 || refused < 600 {
		t.Errorf("%d encodings and %d others are too few", accepted, refused)
	}
}
