package wire_test

import (
	"math"
	"math/rand/v2"
	"reflect"
	"slices"
	"strconv"

	"tollhouse/api"
	"tollhouse/curve"
	"tollhouse/scalar"
)

// Things with every field set. They are made anew by each call, out of numbers that all differ, so that no field can be taken for another one unseen.

// digest is 32 bytes that count up from one.
func digest(n int) api.Digest {
	var d api.Digest
	for i := range d {
		d[i] = byte(n + i)
	}
	return d
}

// text is so many bytes that count up from one, with room behind them in which others lie.
func text(n, many int) []byte {
	b := make([]byte, many+7)
	for i := range b {
		b[i] = byte(n + 3*i)
	}
	return b[:many]
}

// known are the points that point has told.
var known = map[int]api.Point{}

// point is so many times the base point.
func point(n int) api.Point {
	p, ok := known[n]
	if !ok {
		p = curve.Mul(scalar.Of(uint64(n)), curve.Base())
		known[n] = p
	}
	return p
}

// rest lays room behind a list, with elements in it.
func rest[T any](l ...T) []T { return append(l, l...)[:len(l)] }

func fullOut(n int) api.Out {
	return api.Out{
		Kind:    1 + n%4,
		Asset:   api.Tag{Blind: true, Point: point(n + 2)},
		Amount:  api.Amount{Blind: true, Point: point(n + 3)},
		Range:   text(n+4, 9),
		Surject: text(n+5, 8),
		Note:    text(n+6, 7),
		Script:  text(n+7, 6),
	}
}

func openOut(n int) api.Out {
	return api.Out{
		Kind:   1 + n%4,
		Asset:  api.Tag{Id: digest(n + 1)},
		Amount: api.Amount{Value: uint64(n) << 32},
		Script: text(n+2, 4),
	}
}

func fullIssue(n int) api.Issue {
	return api.Issue{
		Kind:    api.IssueAgain,
		Amount:  api.Amount{Blind: true, Point: point(n + 1)},
		Range:   text(n+2, 5),
		Tokens:  uint64(n+3) << 24,
		Entropy: digest(n + 4),
		Blind:   api.Scalar{uint64(n + 5), uint64(n + 6), uint64(n + 7), uint64(n + 8)},
	}
}

func fullPeg(n int) api.Peg {
	return api.Peg{
		Header: digest(n),
		Tx:     text(n+1, 11),
		Place:  uint32(n+2) << 16,
		Many:   uint32(n+3) << 8,
		Path:   rest(digest(n+4), digest(n+5), digest(n+6)),
		Script: text(n+7, 10),
	}
}

func fullIn(n int) api.In {
	return api.In{
		Kind:    api.InPeg,
		Prev:    api.Outpoint{Tx: digest(n), Index: uint32(n) << 20},
		Issue:   fullIssue(n + 1),
		Peg:     fullPeg(n + 2),
		Witness: rest(text(n+3, 3), text(n+4, 0), text(n+5, 2)),
	}
}

func spendIn(n int) api.In {
	return api.In{
		Kind:    api.InSpend,
		Prev:    api.Outpoint{Tx: digest(n), Index: uint32(n)},
		Issue:   api.Issue{Kind: api.IssueNew, Amount: api.Amount{Value: uint64(n) << 8}, Entropy: digest(n + 1)},
		Witness: rest(text(n+2, 1)),
	}
}

func fullTx(n int) api.Tx {
	plain := api.In{Kind: api.InSpend, Prev: api.Outpoint{Tx: digest(n + 4), Index: 1}}
	return api.Tx{
		After: uint64(n) << 40,
		Ins:   rest(fullIn(n+1), spendIn(n+2), plain),
		Outs:  rest(fullOut(n+5), openOut(n+6), fullOut(n+7)),
	}
}

func fullParams(n int) api.Params {
	return api.Params{T: n, Keys: rest(api.Key(digest(n+1)), api.Key(digest(n+2)))}
}

func fullHeader(n int) api.Header {
	return api.Header{
		Prev:   digest(n),
		Height: uint64(n+1) << 48,
		Time:   uint64(n+2) << 40,
		Root:   digest(n + 3),
		Main:   digest(n + 4),
		Reward: text(n+5, 13),
		Change: true,
		Next:   fullParams(n + 6),
	}
}

func fullSigned(n int) api.Signed {
	s := api.Signed{Key: n}
	for i := range s.Sig {
		s.Sig[i] = byte(n + 5*i)
	}
	return s
}

func fullBlock(n int) api.Block {
	return api.Block{
		Header: fullHeader(n),
		Sigs:   rest(fullSigned(n+10), fullSigned(n+11)),
		Txs:    rest(fullTx(n+20), api.Tx{After: 1}, fullTx(n+40)),
	}
}

func fullMainTx(n int) api.MainTx {
	return api.MainTx{
		Nonce: uint64(n) << 16,
		Outs:  rest(api.MainOut{Value: uint64(n + 1), Claim: digest(n + 2)}, api.MainOut{Value: uint64(n+3) << 56, Claim: digest(n + 4)}),
	}
}

func fullMainHeader(n int) api.MainHeader {
	return api.MainHeader{Prev: digest(n), Root: digest(n + 1), Height: uint64(n+2) << 32, Nonce: uint64(n+3) << 24}
}

func fullConfig(n int) api.Config {
	return api.Config{
		Peg:   digest(n),
		Depth: uint64(n+1) << 8,
		Fed:   fullParams(n + 2),
		Main:  fullMainHeader(n + 3),
		Coins: rest(fullOut(n+7), openOut(n+8)),
	}
}

// Things of any kind that may be; the same ones whenever the tests run.

func someDigest(g *rand.Rand) api.Digest {
	if g.IntN(4) == 0 {
		return api.Digest{}
	}
	return digest(g.IntN(256))
}

func someNumber(g *rand.Rand) uint64 {
	return []uint64{0, 1, 255, 256, 1 << 32, 1 << 63, math.MaxUint64}[g.IntN(7)]
}

func someText(g *rand.Rand, most int) []byte {
	many := g.IntN(5)
	if g.IntN(16) == 0 {
		many = min(most, []int{252, 253, 256, most}[g.IntN(4)])
	}
	b := make([]byte, many)
	for i := range b {
		b[i] = []byte{0, 1, 2, 3, 253, 255}[g.IntN(6)]
	}
	return b
}

func someList[T any](g *rand.Rand, most int, one func(g *rand.Rand) T) []T {
	many := g.IntN(3)
	if g.IntN(40) == 0 {
		many = most
	}
	var l []T
	for range many {
		l = append(l, one(g))
	}
	return l
}

func somePoint(g *rand.Rand) api.Point { return point(1 + g.IntN(50)) }

func someTag(g *rand.Rand) api.Tag {
	if g.IntN(2) == 0 {
		return api.Tag{Id: someDigest(g)}
	}
	return api.Tag{Blind: true, Point: somePoint(g)}
}

func someAmount(g *rand.Rand) api.Amount {
	if g.IntN(2) == 0 {
		return api.Amount{Value: someNumber(g)}
	}
	return api.Amount{Blind: true, Point: somePoint(g)}
}

func someOut(g *rand.Rand) api.Out {
	return api.Out{
		Kind: 1 + g.IntN(4), Asset: someTag(g), Amount: someAmount(g),
		Range: someText(g, 6000), Surject: someText(g, 6000), Note: someText(g, 128), Script: someText(g, 256),
	}
}

func someIssue(g *rand.Rand) api.Issue {
	if g.IntN(2) == 0 {
		return api.Issue{}
	}
	return api.Issue{
		Kind: 1 + g.IntN(2), Amount: someAmount(g), Range: someText(g, 6000), Tokens: someNumber(g), Entropy: someDigest(g),
		Blind: []api.Scalar{{}, {1}, {0, 0, 0, 1 << 63}, lastScalar()}[g.IntN(4)],
	}
}

func someIn(g *rand.Rand) api.In {
	i := api.In{
		Kind: 1 + g.IntN(2), Prev: api.Outpoint{Tx: someDigest(g), Index: uint32(someNumber(g))}, Issue: someIssue(g),
		Witness: someList(g, 16, func(g *rand.Rand) []byte { return someText(g, 256) }),
	}
	if i.Kind == api.InPeg {
		i.Peg = api.Peg{
			Header: someDigest(g), Tx: someText(g, 1024), Place: uint32(someNumber(g)), Many: uint32(someNumber(g)),
			Path: someList(g, 32, someDigest), Script: someText(g, 256),
		}
	}
	return i
}

func someTx(g *rand.Rand) api.Tx {
	return api.Tx{After: someNumber(g), Ins: someList(g, 16, someIn), Outs: someList(g, 16, someOut)}
}

func someParams(g *rand.Rand) api.Params {
	return api.Params{T: g.IntN(256), Keys: someList(g, 16, func(g *rand.Rand) api.Key { return api.Key(someDigest(g)) })}
}

func someHeader(g *rand.Rand) api.Header {
	h := api.Header{
		Prev: someDigest(g), Height: someNumber(g), Time: someNumber(g), Root: someDigest(g), Main: someDigest(g),
		Reward: someText(g, 256), Change: g.IntN(2) == 0,
	}
	if h.Change {
		h.Next = someParams(g)
	}
	return h
}

func someBlock(g *rand.Rand) api.Block {
	return api.Block{
		Header: someHeader(g),
		Sigs:   someList(g, 16, func(g *rand.Rand) api.Signed { return fullSigned(g.IntN(256)) }),
		Txs:    someList(g, 64, someTx),
	}
}

func someMainTx(g *rand.Rand) api.MainTx {
	return api.MainTx{Nonce: someNumber(g), Outs: someList(g, 16, func(g *rand.Rand) api.MainOut {
		return api.MainOut{Value: someNumber(g), Claim: someDigest(g)}
	})}
}

func someMainHeader(g *rand.Rand) api.MainHeader {
	return api.MainHeader{Prev: someDigest(g), Root: someDigest(g), Height: someNumber(g), Nonce: someNumber(g)}
}

func someConfig(g *rand.Rand) api.Config {
	return api.Config{Peg: someDigest(g), Depth: someNumber(g), Fed: someParams(g), Main: someMainHeader(g), Coins: someList(g, 64, someOut)}
}

// show tells all of a value, nil and empty lists alike; if asked for, also what lies behind the ends of its lists.
func show(x any, behind bool) string { return string(shown(nil, reflect.ValueOf(x), behind)) }

func shown(b []byte, v reflect.Value, behind bool) []byte {
	switch v.Kind() {
	case reflect.Struct:
		for i := range v.NumField() {
			b = shown(b, v.Field(i), behind)
		}
	case reflect.Slice:
		b = append(strconv.AppendInt(b, int64(v.Len()), 10), '[')
		if behind && v.Cap() > 0 {
			v = v.Slice(0, v.Cap())
		}
		for i := range v.Len() {
			b = shown(b, v.Index(i), behind)
		}
		b = append(b, ']')
	case reflect.Array:
		for i := range v.Len() {
			b = shown(b, v.Index(i), behind)
		}
	case reflect.Bool:
		b = strconv.AppendBool(b, v.Bool())
	case reflect.Int:
		b = strconv.AppendInt(b, v.Int(), 10)
	default:
		b = strconv.AppendUint(b, v.Uint(), 10)
	}
	return append(b, ' ')
}

// same tells whether two values are the same, nil and empty lists alike.
func same[T any](x, y T) bool { return show(x, false) == show(y, false) }

// room is where a list lies, to the end of what lies behind it.
type room struct {
	from, to uintptr
}

// roomsOf are those of all lists in a value.
func roomsOf(v reflect.Value) []room {
	var l []room
	switch v.Kind() {
	case reflect.Struct:
		for i := range v.NumField() {
			l = append(l, roomsOf(v.Field(i))...)
		}
	case reflect.Slice:
		if size := uintptr(v.Cap()) * v.Type().Elem().Size(); size > 0 {
			l = append(l, room{v.Pointer(), v.Pointer() + size})
		}
		for i := range v.Len() {
			l = append(l, roomsOf(v.Index(i))...)
		}
	}
	return l
}

// apart tells whether no two lists in some values share any room.
func apart(xs ...any) bool {
	var l []room
	for _, x := range xs {
		l = append(l, roomsOf(reflect.ValueOf(x))...)
	}
	slices.SortFunc(l, func(a, b room) int {
		if a.from < b.from {
			return -1
		}
		return 1
	})
	for i := 1; i < len(l); i++ {
		if l[i].from < l[i-1].to {
			return false
		}
	}
	return true
}
