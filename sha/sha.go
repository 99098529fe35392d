// Package sha is layer 1: SHA-256, HMAC-SHA-256 and hashes with domain separation: see shared/doc/01-sha.md.
package sha

import (
	"bytes"
	"math/bits"

	"tollhouse/api"
)

const (
	blockSize  = 64
	lengthSize = 8 // bytes at the very end of the padded input, which tell how long the input is
	rounds     = 64
)

// The first 32 bits of the fractional parts of the cube roots of the first 64 primes.
var cubeRoots = [rounds]uint32{
	0x428a2f98, 0x71374491, 0xb5c0fbcf, 0xe9b5dba5, 0x3956c25b, 0x59f111f1, 0x923f82a4, 0xab1c5ed5,
	0xd807aa98, 0x12835b01, 0x243185be, 0x550c7dc3, 0x72be5d74, 0x80deb1fe, 0x9bdc06a7, 0xc19bf174,
	0xe49b69c1, 0xefbe4786, 0x0fc19dc6, 0x240ca1cc, 0x2de92c6f, 0x4a7484aa, 0x5cb0a9dc, 0x76f988da,
	0x983e5152, 0xa831c66d, 0xb00327c8, 0xbf597fc7, 0xc6e00bf3, 0xd5a79147, 0x06ca6351, 0x14292967,
	0x27b70a85, 0x2e1b2138, 0x4d2c6dfc, 0x53380d13, 0x650a7354, 0x766a0abb, 0x81c2c92e, 0x92722c85,
	0xa2bfe8a1, 0xa81a664b, 0xc24b8b70, 0xc76c51a3, 0xd192e819, 0xd6990624, 0xf40e3585, 0x106aa070,
	0x19a4c116, 0x1e376c08, 0x2748774c, 0x34b0bcb5, 0x391c0cb3, 0x4ed8aa4a, 0x5b9cca4f, 0x682e6ff3,
	0x748f82ee, 0x78a5636f, 0x84c87814, 0x8cc70208, 0x90befffa, 0xa4506ceb, 0xbef9a3f7, 0xc67178f2,
}

// Of tells the digest of some bytes.
func Of(b []byte) api.Digest {
	h := New()
	h.Write(b)
	return h.Sum()
}

// Hash takes bytes piece by piece. It holds no pointer, so that a copy of the value goes its own way.
type Hash struct {
	state [8]uint32
	block [blockSize]byte // its first many%blockSize bytes wait until it is full
	many  int
}

// New has taken nothing.
func New() *Hash {
	return &Hash{state: [8]uint32{
		0x6a09e667, 0xbb67ae85, 0x3c6ef372, 0xa54ff53a, 0x510e527f, 0x9b05688c, 0x1f83d9ab, 0x5be0cd19,
	}}
}

// Write takes some more.
func (h *Hash) Write(b []byte) {
	for len(b) > 0 {
		at := h.many % blockSize
		n := copy(h.block[at:], b)
		b = b[n:]
		h.many += n
		if at+n == blockSize {
			h.mix()
		}
	}
}

// Sum tells the digest of all so far. The padding goes into a copy, because more may be written afterwards.
func (h *Hash) Sum() api.Digest {
	last := h.Clone()
	last.Write(padding(h.many))
	var d api.Digest
	for i, word := range last.state {
		d[4*i], d[4*i+1], d[4*i+2], d[4*i+3] = byte(word>>24), byte(word>>16), byte(word>>8), byte(word)
	}
	return d
}

// Len tells how many bytes were taken.
func (h *Hash) Len() int { return h.many }

// Clone goes its own way.
func (h *Hash) Clone() *Hash {
	c := *h
	return &c
}

// padding is what follows an input of so many bytes, up to the end of its last block.
func padding(many int) []byte {
	zeros := (2*blockSize - lengthSize - 1 - many%blockSize) % blockSize
	pad := make([]byte, 1+zeros+lengthSize)
	pad[0] = 128
	size := uint64(many) * 8
	for i := range lengthSize {
		pad[len(pad)-1-i] = byte(size >> (8 * i))
	}
	return pad
}

// mix takes the full block into the state.
func (h *Hash) mix() {
	w := h.schedule()
	was := h.state
	a, b, c, d, e, f, g, last := was[0], was[1], was[2], was[3], was[4], was[5], was[6], was[7]
	for t := range rounds {
		x := last + (rot(e, 6) ^ rot(e, 11) ^ rot(e, 25)) + ((e & f) ^ (^e & g)) + cubeRoots[t] + w[t]
		y := (rot(a, 2) ^ rot(a, 13) ^ rot(a, 22)) + ((a & b) ^ (a & c) ^ (b & c))
		a, b, c, d, e, f, g, last = x+y, a, b, c, d+x, e, f, g
	}
	h.state = [8]uint32{was[0] + a, was[1] + b, was[2] + c, was[3] + d, was[4] + e, was[5] + f, was[6] + g, was[7] + last}
}

// schedule makes the words of all rounds out of the full block.
func (h *Hash) schedule() [rounds]uint32 {
	var w [rounds]uint32
	for t := range 16 {
		four := h.block[4*t : 4*t+4]
		w[t] = uint32(four[0])<<24 | uint32(four[1])<<16 | uint32(four[2])<<8 | uint32(four[3])
	}
	for t := 16; t < rounds; t++ {
		s0 := rot(w[t-15], 7) ^ rot(w[t-15], 18) ^ w[t-15]>>3
		s1 := rot(w[t-2], 17) ^ rot(w[t-2], 19) ^ w[t-2]>>10
		w[t] = w[t-16] + s0 + w[t-7] + s1
	}
	return w
}

// rot turns to the right, as the hash is written; the library turns to the left.
func rot(x uint32, n int) uint32 { return bits.RotateLeft32(x, -n) }

// Mac is a digest that nobody can make without a key.
func Mac(key, text []byte) api.Digest {
	inner := New()
	inner.Write(keyPad(key, 0x36))
	inner.Write(text)
	d := inner.Sum()
	outer := New()
	outer.Write(keyPad(key, 0x5c))
	outer.Write(d[:])
	return outer.Sum()
}

// keyPad fills a block with a key, or with the digest of one that is too long for it, and xors each byte.
func keyPad(key []byte, with byte) []byte {
	pad := make([]byte, blockSize)
	if len(key) > blockSize {
		d := Of(key)
		copy(pad, d[:])
	} else {
		copy(pad, key)
	}
	for i := range pad {
		pad[i] ^= with
	}
	return pad
}

// Tagged is the digest of some texts, one behind the other, for a use that has a name.
func Tagged(name string, texts ...[]byte) api.Digest {
	t := Of([]byte(name))
	h := New()
	h.Write(t[:])
	h.Write(t[:])
	for _, text := range texts {
		h.Write(text)
	}
	return h.Sum()
}

// Less is the order of digests.
func Less(a, b api.Digest) bool { return bytes.Compare(a[:], b[:]) < 0 }
