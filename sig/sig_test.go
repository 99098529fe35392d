package sig_test

import (
	"encoding/hex"
	"math"
	"slices"
	"testing"

	"tollhouse/api"
	"tollhouse/curve"
	"tollhouse/scalar"
	"tollhouse/sha"
	"tollhouse/sig"
)

const all = math.MaxUint64 // a word of ones

// The lower words of n; above them stand all - 1, and all.
const (
	n0 = 0xbfd25e8cd0364141
	n1 = 0xbaaedce6af48a03b
)

var (
	order   = api.Scalar{n0, n1, all - 1, all}
	lessOne = api.Scalar{n0 - 1, n1, all - 1, all}
	lessTwo = api.Scalar{n0 - 2, n1, all - 1, all}
	moreOne = api.Scalar{n0 + 1, n1, all - 1, all}
	halfN   = api.Scalar{0xdfe92f46681b20a0, 0x5d576e7357a4501d, all, all >> 1} // (n - 1) / 2
	highest = api.Scalar{all, all, all, all}
)

// Four numbers without a pattern: their points have an even Y, an odd one, an even one and an odd one.
var (
	firstK  = api.Scalar{0x89137f8c94d53e8a, 0x887bcdf4562a07b2, 0x46537b8b31d6962a, 0x6efa404701ae2518}
	secondK = api.Scalar{0x8bdcd69e321a41f2, 0xe8aafcd7fdb2b6f1, 0x0ea7688cf8c4ff85, 0xa3420f3cf8995d84}
	thirdK  = api.Scalar{0x000151f613650115, 0x14d390292ca5e23c, 0xadae5fbcc094fb2b, 0x238c1ad2f574866f}
	fourthK = api.Scalar{0xb616a57831728a96, 0xd71008010c4f867b, 0xad0c6edf63ced170, 0x0384dfcc52c8bd65}
)

var (
	zeros = make([]byte, 32)
	abc   = []byte("abc")
	long  = counted(1000)
)

// counted are so many bytes that count up.
func counted(many int) []byte {
	b := make([]byte, many)
	for i := range b {
		b[i] = byte(i)
	}
	return b
}

func bytesOf(digits string) []byte {
	b, err := hex.DecodeString(digits)
	if err != nil {
		panic(err)
	}
	return b
}

// show cuts a text short, for the messages.
func show(text []byte) string { return hex.EncodeToString(text[:min(len(text), 32)]) }

type signed struct {
	secret       api.Scalar
	text         []byte
	key, x, rest string
}

// signatures were worked out by another program. The Y of a key's point and that of R are even and odd in turn.
func signatures() []signed {
	return []signed{
		{api.Scalar{1}, nil, "79be667ef9dcbbac55a06295ce870b07029bfcdb2dce28d959f2815b16f81798", "c77be847b5fd7c789048160bc419c590365d479b5ef579cff35c809c40e25ea9", "241c66d70a0d007f9b0d50faf8196477f6b65fc958ab287a72de32016617407f"},
		{api.Scalar{1}, abc, "79be667ef9dcbbac55a06295ce870b07029bfcdb2dce28d959f2815b16f81798", "ede364959b1f520f16b87b5f38b851f4eeea2322bf6e7aa5ff03d0b7687666e2", "999c50d8665c769860d5eefea1c253a904adb44b61828f8c9a5d619998fd5e5b"},
		{lessOne, nil, "79be667ef9dcbbac55a06295ce870b07029bfcdb2dce28d959f2815b16f81798", "c77be847b5fd7c789048160bc419c590365d479b5ef579cff35c809c40e25ea9", "241c66d70a0d007f9b0d50faf8196477f6b65fc958ab287a72de32016617407f"},
		{lessOne, abc, "79be667ef9dcbbac55a06295ce870b07029bfcdb2dce28d959f2815b16f81798", "ede364959b1f520f16b87b5f38b851f4eeea2322bf6e7aa5ff03d0b7687666e2", "999c50d8665c769860d5eefea1c253a904adb44b61828f8c9a5d619998fd5e5b"},
		{moreOne, nil, "79be667ef9dcbbac55a06295ce870b07029bfcdb2dce28d959f2815b16f81798", "c77be847b5fd7c789048160bc419c590365d479b5ef579cff35c809c40e25ea9", "241c66d70a0d007f9b0d50faf8196477f6b65fc958ab287a72de32016617407f"},
		{api.Scalar{2}, zeros, "c6047f9441ed7d6d3045406e95c07cd85c778e4b8cef3ca7abac09b95c709ee5", "66a0100038b75f1f725dc5eb93c2a2886a439dc315290492cfcabcd2bcb146e7", "87a8ac90aff339e6b202513e6a2d74bb151a40e970a4b7fff87e77ffe07c0d05"},
		{lessTwo, zeros, "c6047f9441ed7d6d3045406e95c07cd85c778e4b8cef3ca7abac09b95c709ee5", "66a0100038b75f1f725dc5eb93c2a2886a439dc315290492cfcabcd2bcb146e7", "87a8ac90aff339e6b202513e6a2d74bb151a40e970a4b7fff87e77ffe07c0d05"},
		{api.Scalar{3}, zeros, "f9308a019258c31049344f85f89d5229b531c845836f99b08601f113bce036f9", "e907831f80848d1069a5371b402410364bdf1c5f8307b0084c55f1ce2dca8215", "25f66a4a85ea8b71e482a74f382d2ce5ebeee8fdb2172f477df4900d310536c0"},
		{api.Scalar{3}, nil, "f9308a019258c31049344f85f89d5229b531c845836f99b08601f113bce036f9", "f04c3b354634ae5d1a8987e082de50298a545f63fefdabc027c6013519c5c60e", "2c71b79e5dfd0f457dc379e935fd8a61da7b8c609c3f61a84b25dec1f1ea7821"},
		{api.Scalar{6}, abc, "fff97bd5755eeea420453a14355235d382f6472f8568a18b2f057a1460297556", "745775389edf668fbc8d3838fe8d119d8a8886b2eec75d9b3a1f2a7cf673f364", "3327439beaa3f6e9779303be33c082c9f9f1669536abdfd02c92ff05231c595e"},
		{api.Scalar{6}, long, "fff97bd5755eeea420453a14355235d382f6472f8568a18b2f057a1460297556", "1dcd07d5f9abbfe7874b17fe5b278cc79ce83763f12d0c5e4be9a13819009a79", "90682f044311d4def169cd4ad31fcbfa150eb40862de0bfc2ad2c40cf0f55655"},
		{halfN, nil, "00000000000000000000003b78ce563f89a0ed9414f5aa28ad0d96d6795f9c63", "16ac73e3c28f132dd6323cf5adb255e3c4b6dde565fffef0ca23b8fbc8d1fe02", "6d37f48db16a00807a15ceec14ccfcb416a9bfea12ecf90a1e6b3c0ee59a9750"},
		{halfN, abc, "00000000000000000000003b78ce563f89a0ed9414f5aa28ad0d96d6795f9c63", "9c9f748d9da43a5b0a940deee9ebf4301d70999958d3006e9c0e075dc7e7e8bc", "6c95473fd1fd42ffe00551e56489931fe9524dd9b8917ba0b614d9fd092131f2"},
		{highest, nil, "9166c289b9f905e55f9e3df9f69d7f356b4a22095f894f4715714aa4b56606af", "3143ea0c1ff3b2a410ac59b1d6005943d15b8066fcdb39ac1ec7a80eea6ede55", "febd6c0f3686ffd22d60af9d797d7ab061b0db622efff1d27c901c38fea5d743"},
		{highest, zeros, "9166c289b9f905e55f9e3df9f69d7f356b4a22095f894f4715714aa4b56606af", "21c527055f82cf11a6ab10663d02433f14b0b214c7752a5d2d954d4c17e8711b", "872a7bc568372880333317611a666573f3197d04242d4c55d1253920a4fc55ca"},
		{highest, long, "9166c289b9f905e55f9e3df9f69d7f356b4a22095f894f4715714aa4b56606af", "f9845f6f09e39b3fff745f729b7fafae01adeac57949ebf5e49eb090c685cc67", "5f6f29adf9fb1f9d36d6b7716ebce448dcec45885681b5c96326e8e8bb867e12"},
		{firstK, nil, "f80886be727519f317ba62352a139155e776f554aac347d96ac977603e29e5f4", "69bf60506d17680bacff19a30972939438c1a40181c806b31aa19b74f3f9b703", "e61fd8b6ee1386d9c4850ebc39b1d3099e8b69d4a91ca193e69df9684a556a82"},
		{firstK, zeros, "f80886be727519f317ba62352a139155e776f554aac347d96ac977603e29e5f4", "875533bfbe18c2233c97b9ab9c688d463d51249ce00ab4352c2af0e3d4407e86", "fb66b689b0a20bdc746f534e10d161db99f1b07577407fbd2b285080b2e2e83a"},
		{secondK, long, "efad9b553ec94f6121941b32d490be0bf87d53c8c1d7dbd2493a970d30a5f88e", "bc6bc47dc6440030c368fc7d4e9fccbf0ef5bd251695a65b48ff43dc62ed38f6", "3db9b1de0c3d7f3459f2c77b1d0e60afe20baaac4766274e20de1e4bafefe231"},
		{secondK, zeros, "efad9b553ec94f6121941b32d490be0bf87d53c8c1d7dbd2493a970d30a5f88e", "fa73bab89a94e9723644d926965a9a7c5e9de13352838b270f524d13048cdfb7", "777c2cfec431208f7058637628203d8992654e8be41d5aed0a971ea6dea8c1b0"},
		{thirdK, abc, "bc528071c5f0384d4e8b235a760033746da71c4eafcb49aad8803592a68de56f", "97194f71bf7d316e867377eb2eb4614753892967b8ecebff19e9f3cc2fb270e6", "e5c595265285503936bb65b794139dbbcf742d39c5ad0b44b052669f560fbf89"},
		{thirdK, long, "bc528071c5f0384d4e8b235a760033746da71c4eafcb49aad8803592a68de56f", "286d24ae543cff899f7a7b98912b072b3d02766f6d5d5166969a502a0a164242", "73360e0a3f8382201e2ac2dfab015047b7fa47b1e5edf9b9b403328ada6101a6"},
		{fourthK, nil, "1db8874a85027f55853e09403c9d2c77a02cf3056a13fe1098da5f6ab9921d17", "d6ddc1e0acb1f2887e2caa02a1b10d2c21427e5141f61ef3c938e143f5ea28ec", "f036331e5bc28e5f73b6d03e8a2628829b9257197744b3e45e579df9b81363cd"},
		{fourthK, zeros, "1db8874a85027f55853e09403c9d2c77a02cf3056a13fe1098da5f6ab9921d17", "51025f3d403103646c5a5e6bf1a1a5b9879249fce25fe77422083efe51c0a74d", "3fa7376db362c993c9500c1a6ae100d48cf6c54babc863a43e6d3463facbf5be"},
	}
}

// standard are keys, texts and signatures that the standard BIP340 tells, made with other nonces than ours.
func standard() []signed {
	return []signed{
		{text: bytesOf("243f6a8885a308d313198a2e03707344a4093822299f31d0082efa98ec4e6c89"), key: "dff1d77f2a671c5f36183726db2341be58feae1da2deced843240f7b502ba659", x: "6896bd60eeae296db48a229ff71dfe071bde413e6d43f917dc8dcf8c78de3341", rest: "8906d11ac976abccb20b091292bff4ea897efcb639ea871cfa95f6de339e4b0a"},
		{text: bytesOf("7e2d58d8b3bcdf1abadec7829054f90dda9805aab56c77333024b9d0a508b75c"), key: "dd308afec5777e13121fa72b9cc1b7cc0139715309b086c960e18fd969774eb8", x: "5831aaeed7b44bb74e5eab94ba9d4294c49bcf2a60728d8b4c200f50dd313c1b", rest: "ab745879a5ad954a72c45a91c3a51d3c7adea98d82f8481e0e1e03674a6f3fb7"},
		{text: bytesOf("ffffffffffffffffffffffffffffffffffffffffffffffffffffffffffffffff"), key: "25d1dff95105f5253c4022f628a996ad3a0d95fbf21d468a1b33f8c160d8f517", x: "7eb0509757e246f19449885651611cb965ecc1a187dd51b64fda1edc9637d5ec", rest: "97582b9cb13db3933705b32ba982af5af25fd78881ebb32771fc5922efc66ea3"},
		{text: bytesOf("4df3c3f68fcc83b27e9d42c90431a72499f17875c81a599b566c9889b9696703"), key: "d69c3509bb99e412e68b0fe8544e72837dfa30746d8be2aa65975f29d22dc7b9", x: "00000000000000000000003b78ce563f89a0ed9414f5aa28ad0d96d6795f9c63", rest: "76afb1548af603b3eb45c9f8207dee1060cb71c04e80f593060b07d28308d7f4"},
		{key: "778caa53b4393ac467774d09497a87224bf9fab6f6e68b23086497324d6fd117", x: "71535db165ecd9fbbc046e5ffaea61186bb6ad436732fccc25291a55895464cf", rest: "6069ce26bf03466228f19a3a62db8a649f2d560fac652827d1af0574e427ab63"},
	}
}

func (s signed) lifted() api.Key { return api.Key(bytesOf(s.key)) }

func (s signed) sig() api.Sig { return api.Sig(bytesOf(s.x + s.rest)) }

// public and made are for secrets that are known to have a key.
func public(secret api.Scalar) api.Key {
	key, ok := sig.Public(secret)
	if !ok {
		panic("no key")
	}
	return key
}

func made(secret api.Scalar, text []byte) api.Sig {
	s, ok := sig.Sign(secret, text)
	if !ok {
		panic("no signature")
	}
	return s
}

// xOf are the bytes of the X of so many times Base.
func xOf(k api.Scalar) api.Key {
	code := curve.Encode(curve.Mul(k, curve.Base()))
	return api.Key(code[1:])
}

// oddOf tells whether so many times Base has an odd Y.
func oddOf(k api.Scalar) bool { return curve.Encode(curve.Mul(k, curve.Base()))[0] == 3 }

// forged is the signature that first bytes, a nonce and a secret make, whatever the Y of their points are.
func forged(x api.Key, k, d api.Scalar, key api.Key, text []byte) api.Sig {
	e := scalar.Reduce(sha.Tagged("BIP0340/challenge", x[:], key[:], text))
	z := scalar.Bytes(scalar.Add(k, scalar.Mul(e, d)))
	return api.Sig(slices.Concat(x[:], z[:]))
}

func TestPublic(t *testing.T) {
	for _, c := range signatures() {
		if key, ok := sig.Public(c.secret); key != c.lifted() || !ok {
			t.Errorf("P6.1: Public(%x) = %x, %v, want %s", c.secret, key, ok, c.key)
		}
	}
	for _, secret := range []api.Scalar{{}, order} {
		if key, ok := sig.Public(secret); key != (api.Key{}) || ok {
			t.Errorf("P6.1: Public(%x) = %x, %v", secret, key, ok)
		}
	}
}

func TestSign(t *testing.T) {
	for _, c := range signatures() {
		for range 2 {
			if s, ok := sig.Sign(c.secret, c.text); s != c.sig() || !ok {
				t.Errorf("P6.2: Sign(%x, %s) = %x, %v, want %s%s", c.secret, show(c.text), s, ok, c.x, c.rest)
			}
		}
	}
	for _, secret := range []api.Scalar{{}, order} {
		for _, text := range [][]byte{nil, zeros, abc} {
			if s, ok := sig.Sign(secret, text); s != (api.Sig{}) || ok {
				t.Errorf("P6.2: Sign(%x, %s) = %x, %v", secret, show(text), s, ok)
			}
		}
	}
	if made(firstK, nil) != made(firstK, []byte{}) {
		t.Error("P6.2: the empty text has two signatures")
	}
}

func TestVerify(t *testing.T) {
	for _, c := range append(signatures(), standard()...) {
		if !sig.Verify(c.lifted(), c.text, c.sig()) {
			t.Errorf("P6.3: Verify(%s, %s, %s%s) = false", c.key, show(c.text), c.x, c.rest)
		}
	}
}

// secrets are such as have a key.
func secrets() []api.Scalar {
	return []api.Scalar{{1}, {2}, {3}, {6}, {all}, {0, 0, 0, 1 << 63}, lessOne, lessTwo, moreOne, halfN, highest, firstK, secondK, thirdK, fourthK}
}

func TestVerifyWhatSignTold(t *testing.T) {
	odd := 0
	for _, secret := range secrets() {
		if oddOf(secret) {
			odd++
		}
		for _, many := range []int{0, 1, 31, 32, 33, 55, 64, 119, 300} {
			text := counted(many)
			if !sig.Verify(public(secret), text, made(secret, text)) {
				t.Errorf("P6.5: Verify says no to Sign(%x, %d bytes)", secret, many)
			}
		}
	}
	if odd == 0 || odd == len(secrets()) {
		t.Errorf("of %d secrets' points, %d have an odd Y", len(secrets()), odd)
	}
}

// A nonce whose point has an even Y makes a signature, and any but such a one makes none.
func TestVerifyOtherNonces(t *testing.T) {
	key := public(firstK)
	even := 0
	for i := range 20 {
		k := scalar.Of(uint64(i) + 1)
		want := !oddOf(k)
		if want {
			even++
		}
		if got := sig.Verify(key, abc, forged(xOf(k), k, firstK, key, abc)); got != want {
			t.Errorf("P6.3: with the nonce %d, Verify = %v", i+1, got)
		}
		if got := sig.Verify(key, abc, forged(xOf(k), scalar.Neg(k), firstK, key, abc)); got == want {
			t.Errorf("P6.3: with the nonce -%d, Verify = %v", i+1, got)
		}
		if sig.Verify(key, abc, forged(xOf(k), k, scalar.Neg(firstK), key, abc)) {
			t.Errorf("P6.3: with the nonce %d and the secret's negative, Verify = true", i+1)
		}
	}
	if even == 0 || even == 20 {
		t.Errorf("of 20 nonces' points, %d have an even Y", even)
	}
}

// z G - e P is Zero where the second number answers for the secret alone: no first number makes that a signature.
func TestVerifyZero(t *testing.T) {
	key := public(thirdK)
	for _, x := range []api.Key{{}, {31: 1}, xOf(scalar.Of(1)), key} {
		if sig.Verify(key, abc, forged(x, scalar.Of(0), thirdK, key, abc)) {
			t.Errorf("P6.3: Verify says yes to Zero, with the first bytes %x", x)
		}
	}
}

// Keys that are no X of a point, or not less than p.
func badKeys() []api.Key {
	var l []api.Key
	for _, digits := range []string{
		"0000000000000000000000000000000000000000000000000000000000000000",
		"0000000000000000000000000000000000000000000000000000000000000005",
		"eefdea4cdb677750a420fee807eacf21eb9898ae79b9768766e4faa04a2d4a34",
		"fffffffffffffffffffffffffffffffffffffffffffffffffffffffefffffc2f", // p
		"fffffffffffffffffffffffffffffffffffffffffffffffffffffffefffffc30", // p + 1, and 1 is an X
		"fffffffffffffffffffffffffffffffffffffffffffffffffffffffefffffc32",
		"ffffffffffffffffffffffffffffffffffffffffffffffffffffffffffffffff",
	} {
		l = append(l, api.Key(bytesOf(digits)))
	}
	return l
}

// A secret 0 would be one of such a key, if Zero were its point.
func TestVerifyBadKeys(t *testing.T) {
	k := scalar.Of(3)
	if oddOf(k) {
		t.Fatal("3 times Base has an odd Y")
	}
	for _, key := range badKeys() {
		for _, s := range []api.Sig{forged(xOf(k), k, scalar.Of(0), key, abc), made(firstK, abc), {}} {
			if sig.Verify(key, abc, s) {
				t.Errorf("P6.3: Verify(%x, abc, %x) = true", key, s)
			}
		}
	}
}

// Numbers that are not less than p, and such as are not less than n, in the places of a signature's two. More of them are in inner_test.go.
func TestVerifyBadNumbers(t *testing.T) {
	key, right := public(secondK), made(secondK, abc)
	for _, x := range badKeys() {
		s := right
		copy(s[:32], x[:])
		if sig.Verify(key, abc, s) || sig.Verify(key, abc, forged(x, scalar.Of(3), scalar.Neg(secondK), key, abc)) {
			t.Errorf("P6.3: Verify says yes to the first bytes %x", x)
		}
	}
	for _, digits := range []string{
		"0000000000000000000000000000000000000000000000000000000000000000",
		"fffffffffffffffffffffffffffffffebaaedce6af48a03bbfd25e8cd0364140",
		"fffffffffffffffffffffffffffffffebaaedce6af48a03bbfd25e8cd0364141", // n
		"fffffffffffffffffffffffffffffffebaaedce6af48a03bbfd25e8cd0364142",
		"ffffffffffffffffffffffffffffffffffffffffffffffffffffffffffffffff",
	} {
		s := right
		copy(s[32:], bytesOf(digits))
		if sig.Verify(key, abc, s) {
			t.Errorf("P6.3: Verify says yes to the second bytes %s", digits)
		}
	}
	if sig.Verify(key, abc, api.Sig{}) || sig.Verify(api.Key{}, nil, api.Sig{}) {
		t.Error("P6.3: Verify says yes to zero bytes")
	}
}

// turned are some bytes with one bit turned, for each of their bits.
func turned(b []byte, each func(bit int, other []byte)) {
	for i := range 8 * len(b) {
		other := slices.Clone(b)
		other[i/8] ^= 1 << (i % 8)
		each(i, other)
	}
}

func TestVerifyTurnedBits(t *testing.T) {
	text := bytesOf("243f6a8885a308d313198a2e03707344a4093822299f31d0082efa98ec4e6c89")
	for _, secret := range []api.Scalar{firstK, secondK} {
		key, s := public(secret), made(secret, text)
		turned(text, func(bit int, other []byte) {
			if sig.Verify(key, other, s) {
				t.Errorf("P6.3: Verify says yes with bit %d of the text turned", bit)
			}
		})
		turned(key[:], func(bit int, other []byte) {
			if sig.Verify(api.Key(other), text, s) {
				t.Errorf("P6.3: Verify says yes with bit %d of the key turned", bit)
			}
		})
		turned(s[:], func(bit int, other []byte) {
			if sig.Verify(key, text, api.Sig(other)) {
				t.Errorf("P6.3: Verify says yes with bit %d of the signature turned", bit)
			}
		})
	}
}

func TestVerifyOthers(t *testing.T) {
	text := counted(32)
	key, s := public(firstK), made(firstK, text)
	for _, other := range [][]byte{nil, text[1:], text[:31], append(slices.Clone(text), 0), append([]byte{0}, text...), slices.Repeat(text, 2), abc} {
		if sig.Verify(key, other, s) {
			t.Errorf("P6.3: Verify says yes to another text, %x", other)
		}
	}
	for _, secret := range secrets() {
		if secret != firstK && sig.Verify(public(secret), text, s) {
			t.Errorf("P6.3: Verify says yes under the key of %x", secret)
		}
	}
	var swapped api.Sig
	copy(swapped[:32], s[32:])
	copy(swapped[32:], s[:32])
	if sig.Verify(key, text, swapped) {
		t.Error("P6.3: Verify says yes to a signature whose halves are swapped")
	}
	empty := made(firstK, nil)
	if !sig.Verify(key, []byte{}, empty) || sig.Verify(key, []byte{0}, empty) {
		t.Error("P6.3: the empty text")
	}
}

func TestTextIsLeft(t *testing.T) {
	whole := counted(200)
	text := whole[:100]
	s := made(secondK, text)
	if !sig.Verify(public(secondK), text, s) || !slices.Equal(whole, counted(200)) {
		t.Error("R5: a text was changed")
	}
	whole[5]++
	if sig.Verify(public(secondK), text, s) || made(secondK, text) == s {
		t.Error("R5: a text was kept")
	}
}
