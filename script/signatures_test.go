package script_test

import (
	"bytes"
	"fmt"
	"slices"
	"testing"

	"tollhouse/script"
)

func TestSig(t *testing.T) {
	s := signers(2)
	good, others := s[0].sign(text), s[1].sign(text)
	key := s[0].key[:]
	check := func(what string, signature, key []byte, want []byte) {
		t.Helper()
		leaves(t, "P13.2 (OpSig, "+what+")", program(opSig), [][]byte{signature, key}, want)
		leaves(t, "P13.2 (OpSig, "+what+")", program(opSig), [][]byte{{6}, signature, key}, []byte{6}, want)
		one := program(opSig)
		end := errFalse
		if want != nil {
			end = ok
		}
		runs(t, "P13.2 (OpSig, "+what+")", one, [][]byte{signature, key}, end)
	}
	yes := []byte{1}
	check("right", good, key, yes)
	check("right", others, s[1].key[:], yes)
	check("another key's signature", others, key, nil)
	check("another key", good, s[1].key[:], nil)
	check("the two exchanged", key, good, nil)
	other := text
	other[31] ^= 1
	check("of another message", s[0].sign(other), key, nil)
	for at := range 64 {
		b := bytes.Clone(good)
		b[at] ^= 1 << (at % 8)
		check("one bit wrong", b, key, nil)
	}
	for at := range 32 {
		b := bytes.Clone(key)
		b[at] ^= 1 << (at % 8)
		check("one bit of the key wrong", good, b, nil)
	}
	for size := range 80 {
		if size != 64 {
			check("a signature of another length", append(bytes.Clone(good), make([]byte, 16)...)[:size], key, nil)
			check("a signature of another length", make([]byte, size), key, nil)
		}
		if size != 32 {
			check("a key of another length", good, append(bytes.Clone(key), make([]byte, 48)...)[:size], nil)
			check("a key of another length", good, make([]byte, size), nil)
		}
	}
	check("a zero before it", append([]byte{0}, good...), key, nil)
	check("a zero before the key", good, append([]byte{0}, key...), nil)
	check("twice", append(bytes.Clone(good), good...), key, nil)
	check("of 256 bytes", bytes.Repeat(good, 4), key, nil)
	check("a key of 256 bytes", good, bytes.Repeat(key, 8), nil)
	check("zeros", make([]byte, 64), make([]byte, 32), nil)
	check("ones", bytes.Repeat([]byte{255}, 64), bytes.Repeat([]byte{255}, 32), nil)
	check("no bytes", nil, nil, nil)
	check("no key that there is", good, bytes.Repeat([]byte{255}, 32), nil)
	check("no key that there is", good, append(make([]byte, 31), 5), nil) // no point has this X

	// The message is the one that is handed in.
	for bit := range 256 {
		m := text
		m[bit/8] ^= 1 << (bit % 8)
		if e := script.Run(program(opSig), [][]byte{good, key}, m, anyHeight); e != errFalse {
			t.Errorf("P13.2 (OpSig): a message that differs in bit %d: %s", bit, name(e))
		}
	}
	for _, size := range []int{0, 1, 2} {
		want := errStack
		if size == 2 {
			want = ok
		}
		runs(t, "P13.2 (OpSig)", program(opSig), [][]byte{good, key}[2-size:], want)
	}
	// The height stays out of it.
	for _, height := range []uint64{0, 1, 1 << 63} {
		runsAt(t, "P13.2 (OpSig)", program(opSig), [][]byte{good, key}, height, ok)
	}
}

// share makes a witness of lower elements and keys, and the operation.
func share(least, n int, lower, keys [][]byte) ([]byte, [][]byte) {
	return program(opShare, least, n), slices.Concat(lower, keys)
}

func keysOf(l []signer) [][]byte {
	var keys [][]byte
	for _, s := range l {
		keys = append(keys, bytes.Clone(s.key[:]))
	}
	return keys
}

// TestShareKinds: each place holds nothing, a valid signature or a wrong one; each t.
func TestShareKinds(t *testing.T) {
	for n := range 5 {
		s := signers(n + 1)
		keys := keysOf(s[:n])
		combinations := 1
		for range n {
			combinations *= 3
		}
		for c := range combinations {
			lower := make([][]byte, n)
			given, wrong := 0, 0
			for i, rest := 0, c; i < n; i, rest = i+1, rest/3 {
				switch rest % 3 {
				case 1:
					lower[i] = s[i].sign(text)
					given++
				case 2:
					lower[i] = []byte{byte(c)} // not empty, even where it is 0
					wrong++
				}
			}
			for least := range n + 2 {
				p, witness := share(least, n, lower, keys)
				var want []byte
				if wrong == 0 && given >= least {
					want = []byte{1}
				}
				leaves(t, fmt.Sprintf("P13.2 (OpShare, %d of %d given, %d wrong)", given, n, wrong), p, witness, want)
				leaves(t, fmt.Sprintf("P13.2 (OpShare, %d of %d given, %d wrong)", given, n, wrong), p, append(items("2a"), witness...), []byte{42}, want)
			}
			for _, least := range []int{127, 128, 255} {
				p, witness := share(least, n, lower, keys)
				leaves(t, "P13.2 (OpShare, t above n)", p, witness, nil)
			}
		}
	}
}

// TestShareWrong: one place is wrong, in each way, and all others are right, or empty.
func TestShareWrong(t *testing.T) {
	const n = 3
	s := signers(n + 1)
	keys := keysOf(s[:n])
	other := text
	other[0] ^= 1
	all := make([][]byte, n)
	for i := range all {
		all[i] = s[i].sign(text)
	}
	for at := range n {
		flipped := bytes.Clone(all[at])
		flipped[63] ^= 1
		wrong := [][]byte{{0}, {1}, make([]byte, 63), make([]byte, 64), make([]byte, 65), make([]byte, 32), flipped, all[(at+1)%n], s[n].sign(text), s[at].sign(other), all[at][:63], append(bytes.Clone(all[at]), 0), append([]byte{0}, all[at]...), keys[at]}
		for _, x := range wrong {
			for least := range n + 1 {
				lower := slices.Clone(all)
				lower[at] = x
				p, witness := share(least, n, lower, keys)
				leaves(t, "P13.2 (OpShare, one wrong)", p, witness, nil)
				lower = make([][]byte, n)
				lower[at] = x
				p, witness = share(least, n, lower, keys)
				leaves(t, "P13.2 (OpShare, one wrong, else none)", p, witness, nil)
			}
		}
		for _, bad := range [][]byte{nil, {0}, keys[at][:31], append(bytes.Clone(keys[at]), 0), append([]byte{0}, keys[at]...), make([]byte, 32), keys[(at+1)%n], bytes.Repeat([]byte{255}, 32), all[at]} {
			spoilt := slices.Clone(keys)
			spoilt[at] = bad
			p, witness := share(1, n, all, spoilt)
			leaves(t, "P13.2 (OpShare, one key wrong)", p, witness, nil)
			// A key that nobody signs by may be what it likes.
			lower := slices.Clone(all)
			lower[at] = nil
			p, witness = share(n-1, n, lower, spoilt)
			leaves(t, "P13.2 (OpShare, an unused key wrong)", p, witness, []byte{1})
			p, witness = share(n, n, lower, spoilt)
			leaves(t, "P13.2 (OpShare, an unused key wrong)", p, witness, nil)
		}
	}
	// Which one belongs to which: every order of the keys under one of the signatures.
	for _, order := range [][]int{{0, 1, 2}, {0, 2, 1}, {1, 0, 2}, {1, 2, 0}, {2, 0, 1}, {2, 1, 0}} {
		var lower, upper [][]byte
		for _, i := range order {
			lower, upper = append(lower, all[i]), append(upper, keys[i])
		}
		p, witness := share(n, n, lower, upper)
		leaves(t, "P13.2 (OpShare, both in another order)", p, witness, []byte{1})
		var want []byte
		if order[0] == 0 && order[1] == 1 {
			want = []byte{1}
		}
		p, witness = share(n, n, lower, keys)
		leaves(t, "P13.2 (OpShare, the signatures in another order)", p, witness, want)
		p, witness = share(n, n, all, upper)
		leaves(t, "P13.2 (OpShare, the keys in another order)", p, witness, want)
	}
	mixed := [][]byte{all[0], keys[0], all[1], keys[1]}
	leaves(t, "P13.2 (OpShare, in pairs)", program("680202"), mixed, nil)
	p, witness := share(2, 2, keys[:2], all[:2])
	leaves(t, "P13.2 (OpShare, the keys below)", p, witness, nil)
	// Keys may be the same: each pair counts.
	p, witness = share(2, 2, [][]byte{all[0], all[0]}, [][]byte{keys[0], keys[0]})
	leaves(t, "P13.2 (OpShare, a key twice)", p, witness, []byte{1})
}

// TestShareNumbers: t and n at their edges.
func TestShareNumbers(t *testing.T) {
	one := newSigner(3)
	good := one.sign(text)
	for least := range 256 {
		var want []byte
		if least == 0 {
			want = []byte{1}
		}
		leaves(t, "P13.2 (OpShare, n of 0)", program(opShare, least, 0), nil, want)
		leaves(t, "P13.2 (OpShare, n of 0)", program(opShare, least, 0), items("05", "06"), []byte{5}, []byte{6}, want)
	}
	// As many pairs as there may be elements: the lower ones are the witness.
	for n := 1; n <= maxStack/2; n++ {
		for _, given := range []int{0, 1, n - 1, n} {
			lower := make([][]byte, n)
			for i := range given {
				lower[n-1-i] = good
			}
			keys := program(push(one.key[:]), times([]byte{opDup}, n-1))
			for _, least := range []int{0, 1, given - 1, given, given + 1, n, n + 1, 255} {
				if least < 0 {
					continue
				}
				var want []byte
				if given >= least {
					want = []byte{1}
				}
				leaves(t, fmt.Sprintf("P13.2 (OpShare, %d of %d given, t %d)", given, n, least), program(keys, opShare, least, n), lower, want)
			}
			runs(t, "P13.2 (OpShare, one too few)", program(keys, opShare, 0, n), lower[1:], errStack)
			runs(t, "P13.2 (OpShare, one too few)", program(keys, opShare, 0, n+1), append(lower[:n-1:n-1], nil), errStack)
		}
	}
	for n := 17; n < 256; n++ {
		for _, least := range []int{0, 1, n, 255} {
			runs(t, "P13.2 (OpShare, more than there may be)", program(times([]byte{opDup}, 16), opShare, least, n), make([][]byte, maxWitness), errStack)
			runs(t, "P13.2 (OpShare, more than there may be)", program(opShare, least, n), nil, errStack)
		}
	}
	for have := range maxWitness + 1 {
		for n := range 10 {
			if 2*n > have {
				runs(t, "P13.2 (OpShare, too few)", program(opShare, 0, n, times([]byte{opDrop}, 5)), make([][]byte, have), errStack)
			} else {
				rest := times([]byte{opDrop}, have-2*n+1)
				runs(t, "P13.2 (OpShare, enough)", program(opShare, 0, n, rest, "0101"), make([][]byte, have), ok)
				runs(t, "P13.2 (OpShare, enough)", program(opShare, 0, n, rest, opDrop), make([][]byte, have), errStack)
			}
		}
	}
}
