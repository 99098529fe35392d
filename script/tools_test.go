package script_test

import (
	"bytes"
	"crypto/sha256"
	"encoding/hex"
	"fmt"
	"math/rand"
	"slices"
	"strings"
	"testing"

	"tollhouse/api"
	"tollhouse/script"
	"tollhouse/sig"
)

// The operations, as numbers: see the limits below.
const (
	opVerify, opNot, opEqual, opDup, opDrop, opSwap = 0x60, 0x61, 0x62, 0x63, 0x64, 0x65
	opHash, opSig, opShare, opAfter                 = 0x66, 0x67, 0x68, 0x69
	opIf, opElse, opEnd                             = 0x6a, 0x6b, 0x6c
)

// The limits, as numbers: a test that took them from where the program does would not see another one.
const (
	maxScript  = 256
	maxWitness = 16
	maxItem    = 256
	maxStack   = 32
	maxPush    = 64
)

var text = api.Digest{0x5a, 1, 2, 3, 31: 0xa5} // the message, where nothing else is said

const anyHeight = 5 // that of the chapter's examples

// hexes are bytes written in digits, with blanks between them wherever that helps.
func hexes(digits string) []byte {
	b, err := hex.DecodeString(strings.ReplaceAll(digits, " ", ""))
	if err != nil {
		panic(err)
	}
	return b
}

// program is made of operations (numbers), and of pieces: digits, or bytes as they are.
func program(parts ...any) []byte {
	var b []byte
	for _, part := range parts {
		switch x := part.(type) {
		case int:
			b = append(b, byte(x))
		case string:
			b = append(b, hexes(x)...)
		case []byte:
			b = append(b, x...)
		default:
			panic(fmt.Sprintf("%T", part))
		}
	}
	return b
}

// push is the operation that pushes some bytes.
func push(b []byte) []byte {
	if len(b) > maxPush {
		panic("too long to be pushed")
	}
	return append([]byte{byte(len(b))}, b...)
}

// times is something so many times.
func times(part []byte, many int) []byte { return bytes.Repeat(part, many) }

// items are the elements of a witness, in digits; "-" is the empty one.
func items(digits ...string) [][]byte {
	l := make([][]byte, len(digits))
	for i, s := range digits {
		l[i] = hexes(strings.TrimPrefix(s, "-"))
	}
	return l
}

// many elements of one kind.
func many(b []byte, n int) [][]byte {
	l := make([][]byte, n)
	for i := range l {
		l[i] = bytes.Clone(b)
	}
	return l
}

// name tells an error in words.
func name(e api.Errno) string {
	switch e {
	case 0:
		return "OK"
	case 1:
		return "ErrArg"
	case 130:
		return "ErrScriptLong"
	case 131:
		return "ErrScriptOp"
	case 132:
		return "ErrScriptStack"
	case 133:
		return "ErrScriptFalse"
	case 134:
		return "ErrScriptVerify"
	case 135:
		return "ErrScriptIf"
	case 136:
		return "ErrScriptEarly"
	}
	return fmt.Sprintf("error %d", e)
}

// The errors by the numbers that the chapter gives them.
const (
	ok        api.Errno = 0
	errArg    api.Errno = 1
	errLong   api.Errno = 130
	errOp     api.Errno = 131
	errStack  api.Errno = 132
	errFalse  api.Errno = 133
	errVerify api.Errno = 134
	errIf     api.Errno = 135
	errEarly  api.Errno = 136
)

// show cuts bytes short, for the messages.
func show(b []byte) string {
	if len(b) > 48 {
		return fmt.Sprintf("%x.. (%d bytes)", b[:24], len(b))
	}
	return fmt.Sprintf("%x", b)
}

func showAll(l [][]byte) string {
	var s []string
	for _, b := range l {
		s = append(s, show(b))
	}
	return "(" + strings.Join(s, ", ") + ")"
}

// runs holds Run against what is wanted, at the usual message and height.
func runs(t *testing.T, promise string, p []byte, witness [][]byte, want api.Errno) {
	t.Helper()
	runsAt(t, promise, p, witness, anyHeight, want)
}

func runsAt(t *testing.T, promise string, p []byte, witness [][]byte, height uint64, want api.Errno) {
	t.Helper()
	if e := script.Run(p, witness, text, height); e != want {
		t.Errorf("%s: Run(%s, %s) at height %d = %s, not %s", promise, show(p), showAll(witness), height, name(e), name(want))
	}
}

// seen are operations that look at one element, which has to be this, and take it away.
func seen(element []byte) []byte {
	if len(element) > 31 {
		d := sha256.Sum256(element)
		return program(opHash, push(d[:]), opEqual, opVerify)
	}
	return program(push(element), opEqual, opVerify)
}

// leaves holds the stack that a program leaves against what is wanted, the top one last.
func leaves(t *testing.T, promise string, p []byte, witness [][]byte, want ...[]byte) {
	t.Helper()
	all := bytes.Clone(p)
	for _, element := range slices.Backward(want) {
		all = append(all, seen(element)...)
	}
	all = append(all, 1, 1)
	if len(all) > maxScript {
		t.Fatalf("%d bytes are no program any more", len(all))
	}
	if e := script.Run(all, witness, text, anyHeight); e != ok {
		t.Errorf("%s: %s on %s doesn't leave %s: %s", promise, show(p), showAll(witness), showAll(want), name(e))
	}
}

// signer has a key and signatures by it.
type signer struct {
	secret api.Scalar
	key    api.Key
}

func newSigner(secret uint64) signer {
	k, is := sig.Public(api.Scalar{secret})
	if !is {
		panic("no key")
	}
	return signer{api.Scalar{secret}, k}
}

func (s signer) sign(m api.Digest) []byte {
	x, is := sig.Sign(s.secret, m[:])
	if !is {
		panic("no signature")
	}
	return x[:]
}

// signers are different ones.
func signers(many int) []signer {
	l := make([]signer, many)
	for i := range l {
		l[i] = newSigner(uint64(3 + i))
	}
	return l
}

// federation is made of the signers' keys.
func federation(least int, l []signer) api.Params {
	p := api.Params{T: least}
	for _, s := range l {
		p.Keys = append(p.Keys, s.key)
	}
	return p
}

// noise is bytes without a pattern, the same ones at each call.
func noise(seed int64, size int) []byte {
	b := make([]byte, size)
	rand.New(rand.NewSource(seed)).Read(b)
	return b
}
