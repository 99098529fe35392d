package script_test

import (
	"crypto/sha256"
	"math/rand"
	"slices"
	"strings"
	"testing"

	"tollhouse/api"
	"tollhouse/script"
)

// tree is an operation in the tests' own words: one with brackets holds its branches.
type tree struct {
	code    byte
	rest    string
	yes, no []tree
}

// grow takes operations of a right program up to the end of a branch, and tells what is left.
func grow(p string) ([]tree, string) {
	var l []tree
	for p != "" {
		code := p[0]
		switch {
		case code == opElse || code == opEnd:
			return l, p
		case code == opIf:
			x := tree{code: code}
			x.yes, p = grow(p[1:])
			if p[0] == opElse {
				x.no, p = grow(p[1:])
			}
			l, p = append(l, x), p[1:]
		case code == opShare:
			l, p = append(l, tree{code: code, rest: p[1:3]}), p[3:]
		case code <= maxPush:
			l, p = append(l, tree{code: code, rest: p[1 : 1+code]}), p[1+code:]
		default:
			l, p = append(l, tree{code: code}), p[1:]
		}
	}
	return l, ""
}

// pile is a stack, the top one first; known are the pairs of a signature and a key that are valid.
type pile struct {
	l      []string
	height uint64
	known  map[[2]string]bool
}

func isTrue(s string) bool { return strings.Trim(s, "\x00") != "" }

func said(is bool) string {
	if is {
		return "\x01"
	}
	return ""
}

// walk executes trees; what it does to the pile of those that fail isn't told.
func (p *pile) walk(l []tree) api.Errno {
	for _, x := range l {
		if e := p.one(x); e != ok {
			return e
		}
		if len(p.l) > maxStack {
			return errStack
		}
	}
	return ok
}

func (p *pile) take(n int) ([]string, bool) {
	if len(p.l) < n {
		return nil, false
	}
	top := slices.Clone(p.l[:n])
	p.l = slices.Clone(p.l[n:])
	return top, true
}

func (p *pile) lay(s ...string) { p.l = append(s, p.l...) }

func (p *pile) one(x tree) api.Errno {
	if x.code <= maxPush {
		p.lay(x.rest)
		return ok
	}
	needs := map[byte]int{opEqual: 2, opSwap: 2, opSig: 2}
	n, is := needs[x.code]
	if !is {
		n = 1
	}
	if x.code == opShare {
		n = int(x.rest[1]) + int(x.rest[1])
	}
	top, is := p.take(n)
	if !is {
		return errStack
	}
	switch x.code {
	case opVerify:
		if !isTrue(top[0]) {
			return errVerify
		}
	case opNot:
		p.lay(said(!isTrue(top[0])))
	case opEqual:
		p.lay(said(top[0] == top[1]))
	case opDup:
		p.lay(top[0], top[0])
	case opDrop:
	case opSwap:
		p.lay(top[1], top[0])
	case opHash:
		d := sha256.Sum256([]byte(top[0]))
		p.lay(string(d[:]))
	case opSig:
		p.lay(said(p.known[[2]string{top[1], top[0]}]))
	case opShare:
		p.lay(said(p.enough(top, int(x.rest[0]))))
	case opAfter:
		if len(top[0]) > 8 || strings.Repeat("\x00", 8-len(top[0]))+top[0] > eight(p.height) {
			return errEarly
		}
	case opIf:
		if isTrue(top[0]) {
			return p.walk(x.yes)
		}
		return p.walk(x.no)
	default:
		panic("no operation")
	}
	return ok
}

// eight are the bytes of a number.
func eight(n uint64) string {
	var b [8]byte
	for i := 7; i >= 0; i-- {
		b[i], n = byte(n), n/256
	}
	return string(b[:])
}

// enough counts from the top: the last key and the last lower element belong together, and so on.
func (p *pile) enough(top []string, least int) bool {
	n := len(top) / 2
	given := 0
	for i := range n {
		key, lower := top[i], top[n+i]
		if lower == "" {
			continue
		}
		if !p.known[[2]string{lower, key}] {
			return false
		}
		given++
	}
	return given >= least
}

// wantRun is what the chapter says of a right program.
func wantRun(program []byte, witness [][]byte, height uint64, known map[[2]string]bool) api.Errno {
	l, _ := grow(string(program))
	p := &pile{height: height, known: known}
	for _, b := range witness {
		p.lay(string(b))
	}
	if e := p.walk(l); e != ok {
		return e
	}
	if len(p.l) != 1 || !isTrue(p.l[0]) {
		return errFalse
	}
	return ok
}

func TestAllShortPrograms(t *testing.T) {
	alphabet := [][]byte{
		{0}, {1, 0}, {1, 1}, {2, 0, 6}, {opVerify}, {opNot}, {opEqual}, {opDup}, {opDrop}, {opSwap}, {opHash}, {opSig}, {opShare, 0, 0}, {opShare, 1, 0}, {opShare, 0, 1}, {opShare, 1, 1}, {opAfter}, {opIf}, {opElse}, {opEnd},
	}
	witnesses := [][][]byte{nil, items("01"), items("-"), items("05", "06"), items("0006", "01"), items("-", "-", "00"), items("01", "01", "01")}
	counts := map[api.Errno]int{}
	var walk func(p []byte, left int)
	walk = func(p []byte, left int) {
		if script.Right(p) == ok {
			for _, w := range witnesses {
				want := wantRun(p, w, anyHeight, nil)
				counts[want]++
				if e := script.Run(p, w, text, anyHeight); e != want {
					t.Errorf("P13.2: Run(%x, %s) = %s, not %s", p, showAll(w), name(e), name(want))
				}
			}
		}
		for _, x := range alphabet {
			if left > 0 {
				walk(append(p[:len(p):len(p)], x...), left-1)
			}
		}
	}
	walk(nil, 4)
	for _, e := range []api.Errno{ok, errStack, errFalse, errVerify, errEarly} {
		if counts[e] < 100 {
			t.Errorf("only %d times %s: the walk is worth little", counts[e], name(e))
		}
	}
}

// maker draws programs that often go on for a while: what an operation needs is often there.
type maker struct {
	r       *rand.Rand
	data    [][]byte
	codes   []int
	shares  [][2]int
	deepest int
}

func (m *maker) branch(size, deep int) []byte {
	var p []byte
	for range size {
		code := m.codes[m.r.Intn(len(m.codes))]
		switch {
		case code == opShare:
			two := m.shares[m.r.Intn(len(m.shares))]
			p = append(p, opShare, byte(two[0]), byte(two[1]))
		case code == opIf && deep > 0:
			p = append(append(p, opIf), m.branch(m.r.Intn(4), deep-1)...)
			if m.r.Intn(3) > 0 {
				p = append(append(p, opElse), m.branch(m.r.Intn(4), deep-1)...)
			}
			p = append(p, opEnd)
		case code == opIf || code == 0:
			p = append(p, push(m.data[m.r.Intn(len(m.data))])...)
		default:
			p = append(p, byte(code))
		}
	}
	return p
}

func (m *maker) witness(most int) [][]byte {
	l := make([][]byte, m.r.Intn(most+1))
	for i := range l {
		l[i] = m.data[m.r.Intn(len(m.data))]
	}
	return l
}

// tries holds Run against the trees on drawn programs.
func tries(t *testing.T, m *maker, count, size int, known map[[2]string]bool) {
	t.Helper()
	counts := map[api.Errno]int{}
	for range count {
		p := m.branch(1+m.r.Intn(size), m.deepest)
		w := m.witness(maxWitness)
		if len(p) > maxScript {
			continue
		}
		if m.r.Intn(2) == 0 { // so that it ends well more often
			p = append(p, times([]byte{opDrop}, min(m.r.Intn(len(w)+1), maxScript-len(p)))...)
		}
		height := uint64(m.r.Intn(12))
		want := wantRun(p, w, height, known)
		counts[want]++
		if e := script.Run(p, w, text, height); e != want {
			t.Fatalf("P13.2: Run(%x, %s) at height %d = %s, not %s", p, showAll(w), height, name(e), name(want))
		}
	}
	for _, e := range []api.Errno{ok, errStack, errFalse, errVerify, errEarly} {
		if counts[e] < count/1000 {
			t.Errorf("only %d times %s: the tries are worth little", counts[e], name(e))
		}
	}
}

func TestDrawnPrograms(t *testing.T) {
	m := &maker{
		r:       rand.New(rand.NewSource(13)),
		data:    items("-", "00", "01", "0000", "05", "06", "09", "0005", "0001", "000000000000000003", "0000000000000003", "ff"),
		codes:   []int{0, 0, 0, 0, opVerify, opNot, opEqual, opDup, opDup, opDrop, opSwap, opHash, opSig, opShare, opAfter, opIf, opIf},
		shares:  [][2]int{{0, 0}, {0, 1}, {1, 1}, {0, 2}, {1, 0}, {2, 3}},
		deepest: 4,
	}
	tries(t, m, 60000, 12, nil)
	// On the highest stacks: nearly all of it only adds.
	m.codes = []int{0, 0, 0, opDup, opDup, opDup, opSwap, opNot, opHash, opShare, opIf, opVerify, opAfter, opDrop}
	m.data = items("01", "01", "01", "05", "00")
	m.shares = [][2]int{{0, 0}, {1, 0}}
	tries(t, m, 20000, 40, nil)
}

func TestDrawnSignatures(t *testing.T) {
	s := signers(3)
	known := map[[2]string]bool{}
	m := &maker{
		r:       rand.New(rand.NewSource(14)),
		codes:   []int{0, 0, 0, 0, opSig, opShare, opShare, opNot, opDup, opDrop, opSwap, opIf, opVerify, opEqual, opAfter},
		shares:  [][2]int{{0, 1}, {1, 1}, {0, 2}, {1, 2}, {2, 2}, {1, 3}},
		deepest: 2,
	}
	for i, x := range s {
		good := x.sign(text)
		m.data = append(m.data, x.key[:], good)
		if i < 2 {
			m.data = append(m.data, x.key[:], good, nil)
		}
		known[[2]string{string(good), string(x.key[:])}] = true
	}
	m.data = append(m.data, []byte{1}, []byte{0}, nil)
	tries(t, m, 6000, 8, known)
}
