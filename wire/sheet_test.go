package wire_test

import (
	"encoding/binary"
	"slices"

	"tollhouse/api"
)

// What a piece of an encoding is.
const (
	plain   = iota
	aTruth  // 0 or 1
	aKind   // a byte from least to most
	anOctet // any byte
	aCount  // how many bytes or elements follow: most at most
	aPoint
	aScalar
)

// piece is one item of an encoding.
type piece struct {
	what        int
	b           []byte
	least, most int
}

// sheet is an encoding, told by the tests' own words: it asks neither for conditions nor for limits, so that it also tells what bytes a thing would have that may not be.
type sheet struct {
	l []piece
}

func (s *sheet) bytes() []byte { return joined(s.l) }

func joined(l []piece) []byte {
	var b []byte
	for _, p := range l {
		b = append(b, p.b...)
	}
	return b
}

// instead is the encoding with other bytes for one of its pieces.
func (s *sheet) instead(at int, b []byte) []byte {
	l := slices.Clone(s.l)
	l[at].b = b
	return joined(l)
}

// sheetOf is the encoding of a thing.
func sheetOf[T any](x T, lay func(s *sheet, x T)) *sheet {
	s := &sheet{}
	lay(s, x)
	return s
}

// fixed is a number in so many bytes.
func fixed(n uint64, size int) []byte {
	return binary.BigEndian.AppendUint64(nil, n)[8-size:]
}

// varOf is the Var of a number.
func varOf(n uint64) []byte {
	switch {
	case n < 253:
		return []byte{byte(n)}
	case n <= 0xffff:
		return append([]byte{253}, fixed(n, 2)...)
	case n <= 0xffffffff:
		return append([]byte{254}, fixed(n, 4)...)
	}
	return append([]byte{255}, fixed(n, 8)...)
}

// words are four words of 64 bits, the lowest first, in 32 bytes.
func words(w [4]uint64) []byte {
	return slices.Concat(fixed(w[3], 8), fixed(w[2], 8), fixed(w[1], 8), fixed(w[0], 8))
}

func (s *sheet) raw(b ...byte)      { s.l = append(s.l, piece{what: plain, b: b}) }
func (s *sheet) digest(d [32]byte)  { s.raw(d[:]...) }
func (s *sheet) word(n uint32)      { s.raw(fixed(uint64(n), 4)...) }
func (s *sheet) long(n uint64)      { s.raw(fixed(n, 8)...) }
func (s *sheet) octet(n int)        { s.l = append(s.l, piece{what: anOctet, b: []byte{byte(n)}}) }
func (s *sheet) scalar(w [4]uint64) { s.l = append(s.l, piece{what: aScalar, b: words(w)}) }

func (s *sheet) kind(n, least, most int) {
	s.l = append(s.l, piece{what: aKind, b: []byte{byte(n)}, least: least, most: most})
}

func (s *sheet) truth(is bool) {
	p := piece{what: aTruth, b: []byte{0}}
	if is {
		p.b[0] = 1
	}
	s.l = append(s.l, p)
}

func (s *sheet) point(p api.Point) {
	b := append([]byte{2 + byte(p.Y[0]&1)}, words(p.X)...)
	if p.Inf {
		b = make([]byte, 33)
	}
	s.l = append(s.l, piece{what: aPoint, b: b})
}

func (s *sheet) count(n, most int) {
	s.l = append(s.l, piece{what: aCount, b: varOf(uint64(n)), most: most})
}

func (s *sheet) text(b []byte, most int) {
	s.count(len(b), most)
	s.raw(b...)
}

// The types, in the order of the chapter's table.

func layTag(s *sheet, t api.Tag) {
	s.truth(t.Blind)
	if t.Blind {
		s.point(t.Point)
		return
	}
	s.digest(t.Id)
}

func layAmount(s *sheet, a api.Amount) {
	s.truth(a.Blind)
	if a.Blind {
		s.point(a.Point)
		return
	}
	s.long(a.Value)
}

func layOut(s *sheet, o api.Out) {
	s.kind(o.Kind, 1, 4)
	layTag(s, o.Asset)
	layAmount(s, o.Amount)
	s.text(o.Range, 6000)
	s.text(o.Surject, 6000)
	s.text(o.Note, 128)
	s.text(o.Script, 256)
}

func layIssue(s *sheet, i api.Issue) {
	s.kind(i.Kind, 0, 2)
	if i.Kind == 0 {
		return
	}
	layAmount(s, i.Amount)
	s.text(i.Range, 6000)
	s.long(i.Tokens)
	s.digest(i.Entropy)
	s.scalar(i.Blind)
}

func layPeg(s *sheet, p api.Peg) {
	s.digest(p.Header)
	s.text(p.Tx, 1024)
	s.word(p.Place)
	s.word(p.Many)
	s.count(len(p.Path), 32)
	for _, d := range p.Path {
		s.digest(d)
	}
	s.text(p.Script, 256)
}

func layIn(s *sheet, i api.In) {
	s.kind(i.Kind, 1, 2)
	s.digest(i.Prev.Tx)
	s.word(i.Prev.Index)
	layIssue(s, i.Issue)
	if i.Kind == 2 {
		layPeg(s, i.Peg)
	}
	s.count(len(i.Witness), 16)
	for _, b := range i.Witness {
		s.text(b, 256)
	}
}

func layTx(s *sheet, t api.Tx) {
	s.long(t.After)
	s.count(len(t.Ins), 16)
	for _, i := range t.Ins {
		layIn(s, i)
	}
	s.count(len(t.Outs), 16)
	for _, o := range t.Outs {
		layOut(s, o)
	}
}

func layParams(s *sheet, p api.Params) {
	s.octet(p.T)
	s.count(len(p.Keys), 16)
	for _, k := range p.Keys {
		s.digest(k)
	}
}

func layHeader(s *sheet, h api.Header) {
	s.digest(h.Prev)
	s.long(h.Height)
	s.long(h.Time)
	s.digest(h.Root)
	s.digest(h.Main)
	s.text(h.Reward, 256)
	s.truth(h.Change)
	if h.Change {
		layParams(s, h.Next)
	}
}

func layBlock(s *sheet, b api.Block) {
	layHeader(s, b.Header)
	s.count(len(b.Sigs), 16)
	for _, x := range b.Sigs {
		s.octet(x.Key)
		s.raw(x.Sig[:]...)
	}
	s.count(len(b.Txs), 64)
	for _, t := range b.Txs {
		layTx(s, t)
	}
}

func layMainTx(s *sheet, t api.MainTx) {
	s.long(t.Nonce)
	s.count(len(t.Outs), 16)
	for _, o := range t.Outs {
		s.long(o.Value)
		s.digest(o.Claim)
	}
}

func layMainHeader(s *sheet, h api.MainHeader) {
	s.digest(h.Prev)
	s.digest(h.Root)
	s.long(h.Height)
	s.long(h.Nonce)
}

func layConfig(s *sheet, c api.Config) {
	s.digest(c.Peg)
	s.long(c.Depth)
	layParams(s, c.Fed)
	layMainHeader(s, c.Main)
	s.count(len(c.Coins), 64)
	for _, o := range c.Coins {
		layOut(s, o)
	}
}
