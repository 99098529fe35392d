package sig_test

import (
	"math"
	"slices"
	"testing"

	"tollhouse/api"
	"tollhouse/scalar"
	"tollhouse/sig"
)

// member is the secret of a key of the federations below.
func member(i int) api.Scalar { return scalar.Of(uint64(i) + 1) }

// members are the first so many keys.
func members(many int) []api.Key {
	var l []api.Key
	for i := range many {
		l = append(l, public(member(i)))
	}
	return l
}

// signedBy are signatures by the keys at some places, each of which signed for its place.
func signedBy(text []byte, places ...int) []api.Signed {
	l := []api.Signed{}
	for _, i := range places {
		l = append(l, api.Signed{Key: i, Sig: made(member(i), text)})
	}
	return l
}

// upTo are the places below one.
func upTo(many int) []int {
	var l []int
	for i := range many {
		l = append(l, i)
	}
	return l
}

func TestEnough(t *testing.T) {
	full := api.MaxKeys
	for _, c := range []struct {
		t, keys int
		places  []int
		want    bool
	}{
		{1, 1, []int{0}, true},
		{1, 1, nil, false},
		{1, 3, []int{0}, true},
		{1, 3, []int{1}, true},
		{1, 3, []int{2}, true},
		{1, 3, []int{0, 2}, true},
		{1, 3, []int{0, 1, 2}, true},
		{1, 3, []int{}, false},
		{2, 3, []int{0, 1}, true},
		{2, 3, []int{0, 2}, true},
		{2, 3, []int{1, 2}, true},
		{2, 3, []int{0, 1, 2}, true},
		{2, 3, []int{0}, false},
		{2, 3, []int{2}, false},
		{2, 3, []int{1, 0}, false},
		{2, 3, []int{2, 0}, false},
		{2, 3, []int{1, 1}, false},
		{2, 3, []int{0, 1, 1}, false},
		{2, 3, []int{0, 0, 1}, false},
		{2, 3, []int{0, 2, 1}, false},
		{2, 3, []int{1, 2, 0}, false},
		{3, 3, []int{0, 1, 2}, true},
		{3, 3, []int{0, 1}, false},
		{3, 3, []int{1, 2}, false},
		{3, 3, []int{0, 1, 2, 2}, false},
		{3, 3, []int{2, 1, 0}, false},
		{4, 3, []int{0, 1, 2}, false},
		{4, 3, []int{0, 1, 2, 2}, false},
		{0, 3, []int{0, 1, 2}, false},
		{0, 3, nil, false},
		{-1, 3, []int{0, 1, 2}, false},
		{-1, 3, nil, false},
		{math.MinInt, 3, []int{0}, false},
		{math.MaxInt, 3, []int{0}, false},
		{0, 0, nil, false},
		{1, 0, nil, false},
		{-1, 0, nil, false},
		{1, full - 1, []int{full - 2}, true},
		{1, full, []int{full - 1}, true},
		{full - 1, full, upTo(full - 1), true},
		{full - 1, full, upTo(full), true},
		{full, full, upTo(full), true},
		{full, full, upTo(full - 1), false},
		{full + 1, full, upTo(full), false},
		{1, full + 1, []int{0}, false},
		{1, full + 1, upTo(full + 1), false},
		{full, full + 1, upTo(full), false},
		{full + 1, full + 1, upTo(full + 1), false},
		{1, 5 * full, []int{0}, false},
	} {
		p := api.Params{T: c.t, Keys: members(c.keys)}
		if got := sig.Enough(p, abc, signedBy(abc, c.places...)); got != c.want {
			t.Errorf("P6.4: with T %d and %d keys, signed by %v: %v", c.t, c.keys, c.places, got)
		}
	}
	if sig.Enough(api.Params{}, nil, nil) || sig.Enough(api.Params{T: 1}, nil, make([]api.Signed, 1)) {
		t.Error("P6.4: yes without keys")
	}
}

// Two keys alike make a federation none, wherever they stand and whoever signs.
func TestEnoughKeyTwice(t *testing.T) {
	keys := members(5)
	for i := range keys {
		for j := range i {
			twice := slices.Clone(keys)
			twice[i] = keys[j]
			l := signedBy(abc, upTo(5)...)
			l[i].Sig = l[j].Sig
			for many := range 6 {
				p := api.Params{T: max(many, 1), Keys: twice}
				if sig.Enough(p, abc, l) || sig.Enough(p, abc, l[:many]) {
					t.Errorf("P6.4: yes, though the keys %d and %d are one, with T %d", j, i, p.T)
				}
			}
		}
	}
	if sig.Enough(api.Params{T: 1, Keys: []api.Key{public(member(0)), {}, {}}}, abc, signedBy(abc, 0)) {
		t.Error("P6.4: yes, though two keys are zero")
	}
	if sig.Enough(api.Params{T: 1, Keys: slices.Repeat(members(1), 3)}, abc, signedBy(abc, 0)) {
		t.Error("P6.4: yes, though three keys are one")
	}
}

// The federation of the tests below: any two of four.
func four() api.Params { return api.Params{T: 2, Keys: members(4)} }

func TestEnoughPlaces(t *testing.T) {
	for _, place := range []int{-1, -2, -4, 4, 5, 1 << 32, math.MinInt, math.MaxInt} {
		l := signedBy(abc, 0, 1, 2)
		for i := range l {
			wrong := slices.Clone(l)
			wrong[i].Key = place
			if sig.Enough(four(), abc, wrong) {
				t.Errorf("P6.4: yes to a signature %d by the key %d", i, place)
			}
		}
		if sig.Enough(four(), abc, append(l, api.Signed{Key: place, Sig: l[0].Sig})) || sig.Enough(four(), abc, []api.Signed{{Key: place}, {Key: place}}) {
			t.Errorf("P6.4: yes to one more signature, by the key %d", place)
		}
	}
	// Each signature is right, but by another key than the one named.
	l := signedBy(abc, 0, 1)
	l[0].Key, l[1].Key = 1, 2
	if sig.Enough(four(), abc, l) {
		t.Error("P6.4: yes to signatures by others")
	}
	l[0].Key, l[1].Key = 0, 3
	if sig.Enough(four(), abc, l) {
		t.Error("P6.4: yes to one signature by another")
	}
}

func TestEnoughTexts(t *testing.T) {
	for _, text := range [][]byte{nil, zeros, abc, long} {
		l := signedBy(text, 1, 3)
		if !sig.Enough(four(), text, l) || sig.Enough(four(), append(slices.Clone(text), 1), l) {
			t.Errorf("P6.4: the text %s", show(text))
		}
		l[1] = signedBy(append(slices.Clone(text), 1), 3)[0]
		if sig.Enough(four(), text, l) {
			t.Errorf("P6.4: yes, though one has signed another text than %s", show(text))
		}
	}
}

// A key that no point has is none that anyone can sign by, but a federation may have it.
func TestEnoughBadKeys(t *testing.T) {
	for _, key := range badKeys() {
		p := four()
		p.Keys[1] = key
		if !sig.Enough(p, abc, signedBy(abc, 0, 2)) {
			t.Errorf("P6.4: no, since there is the key %x", key)
		}
		if sig.Enough(p, abc, signedBy(abc, 0, 1)) || sig.Enough(p, abc, signedBy(abc, 0, 1, 2)) {
			t.Errorf("P6.4: yes to a signature by the key %x", key)
		}
	}
}

// subsets are all choices of some of the places below one.
func subsets(many int) [][]int {
	l := [][]int{nil}
	for i := range many {
		for _, some := range l {
			l = append(l, append(slices.Clone(some), i))
		}
	}
	return l
}

// Whichever keys have signed, they are enough from T on.
func TestEnoughOfAll(t *testing.T) {
	p := api.Params{Keys: []api.Key{public(firstK), public(secondK), public(thirdK), public(fourthK)}}
	secrets := []api.Scalar{firstK, secondK, thirdK, fourthK}
	for _, places := range subsets(4) {
		var l []api.Signed
		for _, i := range places {
			l = append(l, api.Signed{Key: i, Sig: made(secrets[i], long)})
		}
		for p.T = 1; p.T <= 4; p.T++ {
			if got := sig.Enough(p, long, l); got != (len(places) >= p.T) {
				t.Errorf("P6.5: with T %d, signed by %v: %v", p.T, places, got)
			}
		}
	}
}

func TestEnoughMore(t *testing.T) {
	for _, places := range [][]int{{0, 1}, {0, 2}, {0, 3}, {1, 2}, {1, 3}, {2, 3}, {0, 1, 2}, {0, 2, 3}} {
		l := signedBy(abc, places...)
		if !sig.Enough(four(), abc, l) {
			t.Errorf("P6.6: signed by %v: no", places)
		}
		for i := range 4 {
			if slices.Contains(places, i) {
				continue
			}
			checkMore(t, l, i)
		}
	}
}

// checkMore adds signatures by one more key to enough others, valid ones and invalid ones, in its place.
func checkMore(t *testing.T, l []api.Signed, i int) {
	t.Helper()
	more := signedBy(abc, i)[0]
	at, _ := slices.BinarySearchFunc(l, i, func(s api.Signed, place int) int { return s.Key - place })
	if !sig.Enough(four(), abc, slices.Insert(slices.Clone(l), at, more)) {
		t.Errorf("P6.6: no, since %d signed too", i)
	}
	for _, wrong := range []api.Sig{{}, l[0].Sig, made(member(i), nil)} {
		if sig.Enough(four(), abc, slices.Insert(slices.Clone(l), at, api.Signed{Key: i, Sig: wrong})) {
			t.Errorf("P6.6: yes, though the signature by %d is wrong", i)
		}
	}
	turned(more.Sig[:], func(bit int, other []byte) {
		// Each bit is tried by TestVerifyTurnedBits.
		if bit%50 == 0 && sig.Enough(four(), abc, slices.Insert(slices.Clone(l), at, api.Signed{Key: i, Sig: api.Sig(other)})) {
			t.Errorf("P6.6: yes, though bit %d of the signature by %d is turned", bit, i)
		}
	})
}

func TestListsAreLeft(t *testing.T) {
	p := api.Params{T: 2, Keys: members(6)[:4]}
	l := signedBy(abc, 0, 2, 3, 1)[:3]
	if !sig.Enough(p, abc, l) || !slices.Equal(p.Keys[:6], members(6)) || !slices.Equal(l[:4], signedBy(abc, 0, 2, 3, 1)) {
		t.Error("R5: a list was changed")
	}
	p.Keys[1] = p.Keys[0]
	if sig.Enough(p, abc, l) {
		t.Error("R5: a list was kept")
	}
}
