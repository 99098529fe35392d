package wire_test

import (
	"fmt"
	"math"
	"math/big"
	"slices"

	"tollhouse/api"
	"tollhouse/curve"
)

// What a thing is after a change.
const (
	fine   = iota // it may be
	wrong         // it may not be, and its bytes don't tell: those of another one are the same
	broken        // it may not be, and its bytes tell: nothing has them
)

// change makes a thing that differs from a full one.
type change[T any] struct {
	name string
	is   int
	do   func(x *T)
}

// set lays a whole value in the place of another.
func set[T any](name string, is int, value T) change[T] {
	return change[T]{name, is, func(x *T) { *x = value }}
}

// at makes changes of a part those of the whole.
func at[T, U any](name string, l []change[T], part func(x *U) *T) []change[U] {
	var out []change[U]
	for _, c := range l {
		out = append(out, change[U]{name + " " + c.name, c.is, func(x *U) { c.do(part(x)) }})
	}
	return out
}

// field is a change of a thing of its own, that stands in no part.
func field[T any](name string, is int, do func(x *T)) []change[T] {
	return []change[T]{{name, is, do}}
}

// prime is p, order n.
func prime() *big.Int { return near(256, -(1<<32)-977) }

func order() *big.Int {
	n, _ := new(big.Int).SetString("fffffffffffffffffffffffffffffffebaaedce6af48a03bbfd25e8cd0364141", 16)
	return n
}

// near is a number near a power of 2.
func near(power uint, more int64) *big.Int {
	n := new(big.Int).Lsh(big.NewInt(1), power)
	return n.Add(n, big.NewInt(more))
}

// wordsOf are the four words of a number.
func wordsOf(n *big.Int) [4]uint64 {
	var w [4]uint64
	for i := range w {
		w[i] = new(big.Int).Rsh(n, uint(64*i)).Uint64()
	}
	return w
}

func plus(n *big.Int, more int64) *big.Int { return new(big.Int).Add(n, big.NewInt(more)) }

func lastScalar() api.Scalar { return api.Scalar(wordsOf(plus(order(), -1))) }

// pointOfY is a point whose Y is as small as can be: the first Y for which Y^2 - 7 has a cube root.
func pointOfY() (x, y *big.Int) {
	p := prime()
	root := new(big.Int).Div(plus(p, 2), big.NewInt(9)) // as p is 7 modulo 9
	for y := int64(1); ; y++ {
		cube := new(big.Int).Mod(big.NewInt(y*y-7), p)
		x := new(big.Int).Exp(cube, root, p)
		if new(big.Int).Exp(x, big.NewInt(3), p).Cmp(cube) == 0 {
			return x, big.NewInt(y)
		}
	}
}

func points() []change[api.Point] {
	one, _ := curve.Lift(api.Key{31: 1}) // its X is 1
	far := one
	far.X = api.Fe(wordsOf(plus(prime(), 1)))
	x, y := pointOfY()
	low := api.Point{X: api.Fe(wordsOf(x)), Y: api.Fe(wordsOf(y))}
	high := api.Point{X: low.X, Y: api.Fe(wordsOf(new(big.Int).Add(y, prime())))}
	flat := curve.Base()
	flat.Inf = true
	beside := curve.Base()
	beside.Y[0] += 2
	return []change[api.Point]{
		set("Base", fine, curve.Base()),
		set("-Base", fine, curve.Neg(curve.Base())),
		set("7 Base", fine, point(7)),
		set("X 1", fine, one),
		set("small Y", fine, low),
		set("no point", broken, api.Point{}),
		set("Zero", broken, curve.Zero()),
		set("Base with Inf", broken, flat),
		set("Inf and an X", broken, api.Point{X: api.Fe{1}, Inf: true}),
		set("Inf and a Y", broken, api.Point{Y: api.Fe{0, 0, 0, 1}, Inf: true}),
		set("X p + 1", broken, far),
		set("Y above p", wrong, high),
		set("X 5", broken, api.Point{X: api.Fe{5}, Y: curve.Base().Y}),
		set("beside Base", wrong, beside),
	}
}

func scalars() []change[api.Scalar] {
	return []change[api.Scalar]{
		set("0", fine, api.Scalar{}),
		set("1", fine, api.Scalar{1}),
		set("2^255", fine, api.Scalar{3: 1 << 63}),
		set("n - 1", fine, lastScalar()),
		set("n", broken, api.Scalar(wordsOf(order()))),
		set("n + 1", broken, api.Scalar(wordsOf(plus(order(), 1)))),
		set("2^256 - 1", broken, api.Scalar{math.MaxUint64, math.MaxUint64, math.MaxUint64, math.MaxUint64}),
	}
}

func longs() []change[uint64] {
	var l []change[uint64]
	for _, n := range []uint64{0, 1, 255, 256, 1 << 32, 1 << 63, math.MaxUint64} {
		l = append(l, set(fmt.Sprint(n), fine, n))
	}
	return l
}

func shorts() []change[uint32] {
	var l []change[uint32]
	for _, n := range []uint32{0, 1, 255, 256, 1 << 16, 1 << 31, math.MaxUint32} {
		l = append(l, set(fmt.Sprint(n), fine, n))
	}
	return l
}

func digests() []change[api.Digest] {
	return []change[api.Digest]{set("zero", fine, api.Digest{}), set("the first byte", fine, api.Digest{1}), set("the last byte", fine, api.Digest{31: 1})}
}

// octets are numbers that stand in one byte, but not as they are where they have no room in it.
func octets() []change[int] {
	var l []change[int]
	for _, n := range []int{math.MinInt, -1 << 32, -256, -255, -1, 0, 1, 127, 128, 255, 256, 257, 511, 512, 1 << 32, 1<<32 + 1, math.MaxInt} {
		is := fine
		if n < 0 || n > 255 {
			is = wrong
		}
		l = append(l, set(fmt.Sprint(n), is, n))
	}
	return l
}

// kinds are all numbers about a kind's range, and those that look like one of it in one byte.
func kinds(least, most int) []change[int] {
	var l []change[int]
	add := func(n int) {
		is := fine
		switch {
		case n >= 0 && n <= 255 && (n < least || n > most):
			is = broken
		case n < least || n > most:
			is = wrong
		}
		l = append(l, set(fmt.Sprint(n), is, n))
	}
	for n := least - 3; n <= most+3; n++ {
		add(n)
		add(n + 256)
		add(n - 256)
		add(n + 1<<32)
	}
	for _, n := range []int{128, 254, 255, math.MinInt, math.MaxInt} {
		add(n)
	}
	return l
}

func texts(most int) []change[[]byte] {
	l := []change[[]byte]{set("nil", fine, []byte(nil)), set("empty", fine, []byte{})}
	for _, n := range []int{1, 2, 127, 128, 252, 253, 254, 255, 256, most - 1, most} {
		if n <= most {
			l = append(l, set(fmt.Sprint(n, " bytes"), fine, text(n, n)))
		}
	}
	for _, n := range []int{most + 1, most + 2, 2 * most, most + 256, most + 1<<16} {
		l = append(l, set(fmt.Sprint(n, " bytes"), broken, text(n, n)))
	}
	return l
}

func lists[T any](most int, one func(n int) T) []change[[]T] {
	l := []change[[]T]{set("nil", fine, []T(nil)), set("empty", fine, []T{})}
	add := func(is int, many ...int) {
		for _, n := range many {
			var x []T
			for i := range n {
				x = append(x, one(i))
			}
			l = append(l, set(fmt.Sprint(n, " of them"), is, x))
		}
	}
	add(fine, 1, 2, most-1, most)
	add(broken, most+1, most+2, most+256)
	return l
}

func tags() []change[api.Tag] {
	blind := func(t *api.Tag) *api.Point {
		*t = api.Tag{Blind: true}
		return &t.Point
	}
	return slices.Concat(
		at("blinded,", points(), blind),
		at("open,", digests(), func(t *api.Tag) *api.Digest {
			*t = api.Tag{}
			return &t.Id
		}),
		[]change[api.Tag]{
			set("open, with Base", wrong, api.Tag{Id: digest(1), Point: curve.Base()}),
			set("open, with Zero", wrong, api.Tag{Id: digest(1), Point: curve.Zero()}),
			set("open, with an X", wrong, api.Tag{Point: api.Point{X: api.Fe{3: 1}}}),
			set("open, with a Y", wrong, api.Tag{Point: api.Point{Y: api.Fe{1}}}),
			set("blinded, with an Id", wrong, api.Tag{Blind: true, Id: digest(1), Point: point(2)}),
			set("blinded, with the last byte of an Id", wrong, api.Tag{Blind: true, Id: api.Digest{31: 1}, Point: point(2)}),
			set("blinded, with an Id alone", broken, api.Tag{Blind: true, Id: digest(1)}),
		})
}

func amounts() []change[api.Amount] {
	blind := func(a *api.Amount) *api.Point {
		*a = api.Amount{Blind: true}
		return &a.Point
	}
	return slices.Concat(
		at("blinded,", points(), blind),
		at("open,", longs(), func(a *api.Amount) *uint64 {
			*a = api.Amount{}
			return &a.Value
		}),
		[]change[api.Amount]{
			set("open, with Base", wrong, api.Amount{Value: 1, Point: curve.Base()}),
			set("open, with Zero", wrong, api.Amount{Point: curve.Zero()}),
			set("open, with an X", wrong, api.Amount{Point: api.Point{X: api.Fe{1}}}),
			set("open, with a Y", wrong, api.Amount{Point: api.Point{Y: api.Fe{3: 1 << 63}}}),
			set("blinded, with a Value", wrong, api.Amount{Blind: true, Value: 1, Point: point(2)}),
			set("blinded, with a great Value", wrong, api.Amount{Blind: true, Value: 1 << 63, Point: point(2)}),
			set("blinded, with a Value alone", broken, api.Amount{Blind: true, Value: 5}),
		})
}

func outs() []change[api.Out] {
	return slices.Concat(
		at("Kind", kinds(1, 4), func(o *api.Out) *int { return &o.Kind }),
		at("Asset", tags(), func(o *api.Out) *api.Tag { return &o.Asset }),
		at("Amount", amounts(), func(o *api.Out) *api.Amount { return &o.Amount }),
		at("Range", texts(6000), func(o *api.Out) *[]byte { return &o.Range }),
		at("Surject", texts(6000), func(o *api.Out) *[]byte { return &o.Surject }),
		at("Note", texts(128), func(o *api.Out) *[]byte { return &o.Note }),
		at("Script", texts(256), func(o *api.Out) *[]byte { return &o.Script }),
		[]change[api.Out]{set("zero", broken, api.Out{}), set("zero but Kind", fine, api.Out{Kind: 1})})
}

func issues() []change[api.Issue] {
	l := []change[api.Issue]{
		set("zero", fine, api.Issue{}),
		set("none, with an empty Range", fine, api.Issue{Range: []byte{}}),
		set("none, with a Value", wrong, api.Issue{Amount: api.Amount{Value: 1}}),
		set("none, with a great Value", wrong, api.Issue{Amount: api.Amount{Value: 1 << 63}}),
		set("none, blinded", wrong, api.Issue{Amount: api.Amount{Blind: true}}),
		set("none, with Base", wrong, api.Issue{Amount: api.Amount{Point: curve.Base()}}),
		set("none, with Zero", wrong, api.Issue{Amount: api.Amount{Point: curve.Zero()}}),
		set("none, with an Amount", wrong, api.Issue{Amount: api.Amount{Blind: true, Point: curve.Base()}}),
		set("none, with a Range", wrong, api.Issue{Range: []byte{0}}),
		set("none, with Tokens", wrong, api.Issue{Tokens: 1}),
		set("none, with Entropy", wrong, api.Issue{Entropy: api.Digest{31: 1}}),
		set("none, with a Blind", wrong, api.Issue{Blind: api.Scalar{1}}),
		set("none, with a great Blind", wrong, api.Issue{Blind: api.Scalar{3: 1}}),
		set("none, with a Blind of n", wrong, api.Issue{Blind: api.Scalar(wordsOf(order()))}),
	}
	for kind := api.IssueNew; kind <= api.IssueAgain; kind++ {
		of := func(i *api.Issue) *api.Issue {
			i.Kind = kind
			return i
		}
		l = slices.Concat(l,
			at(fmt.Sprint(kind), slices.Concat(
				at("Amount", amounts(), func(i *api.Issue) *api.Amount { return &i.Amount }),
				at("Range", texts(6000), func(i *api.Issue) *[]byte { return &i.Range }),
				at("Tokens", longs(), func(i *api.Issue) *uint64 { return &i.Tokens }),
				at("Entropy", digests(), func(i *api.Issue) *api.Digest { return &i.Entropy }),
				at("Blind", scalars(), func(i *api.Issue) *api.Scalar { return &i.Blind })), of),
			[]change[api.Issue]{set(fmt.Sprint(kind, " and nothing else"), fine, api.Issue{Kind: kind})})
	}
	// Kind 0 asks for nothing else, which stands above; here, much else is set.
	for _, c := range kinds(1, 2) {
		if c.name == "0" {
			c.is = wrong
		}
		l = append(l, change[api.Issue]{"Kind " + c.name, c.is, func(i *api.Issue) { c.do(&i.Kind) }})
	}
	return l
}

func pegs() []change[api.Peg] {
	return slices.Concat(
		at("Header", digests(), func(p *api.Peg) *api.Digest { return &p.Header }),
		at("Tx", texts(1024), func(p *api.Peg) *[]byte { return &p.Tx }),
		at("Place", shorts(), func(p *api.Peg) *uint32 { return &p.Place }),
		at("Many", shorts(), func(p *api.Peg) *uint32 { return &p.Many }),
		at("Path", lists(32, digest), func(p *api.Peg) *[]api.Digest { return &p.Path }),
		at("Script", texts(256), func(p *api.Peg) *[]byte { return &p.Script }),
		[]change[api.Peg]{set("zero", fine, api.Peg{})})
}

// spent are pegs of an input that spends.
func spent() []change[api.Peg] {
	return []change[api.Peg]{
		set("zero", fine, api.Peg{}),
		set("with empty lists", fine, api.Peg{Tx: []byte{}, Path: []api.Digest{}, Script: []byte{}}),
		set("full", wrong, fullPeg(3)),
		set("with a Header", wrong, api.Peg{Header: api.Digest{31: 1}}),
		set("with a Tx", wrong, api.Peg{Tx: []byte{0}}),
		set("with a Tx that is too long", wrong, api.Peg{Tx: text(0, 1025)}),
		set("with a Place", wrong, api.Peg{Place: 1}),
		set("with Many", wrong, api.Peg{Many: 1 << 31}),
		set("with a Path", wrong, api.Peg{Path: []api.Digest{{}}}),
		set("with a Script", wrong, api.Peg{Script: []byte{0}}),
	}
}

func ins() []change[api.In] {
	witness := func(i *api.In) *[][]byte { return &i.Witness }
	l := slices.Concat(
		at("Prev.Tx", digests(), func(i *api.In) *api.Digest { return &i.Prev.Tx }),
		at("Prev.Index", shorts(), func(i *api.In) *uint32 { return &i.Prev.Index }),
		at("Issue", issues(), func(i *api.In) *api.Issue { return &i.Issue }),
		at("Peg", pegs(), func(i *api.In) *api.Peg { return &i.Peg }),
		at("Peg of a spending input", spent(), func(i *api.In) *api.Peg {
			i.Kind = api.InSpend
			return &i.Peg
		}),
		at("Witness", lists(16, func(n int) []byte { return text(n, n) }), witness),
		at("Witness", lists(16, func(n int) []byte { return nil }), witness),
		[]change[api.In]{set("zero", broken, api.In{}), set("zero but InSpend", fine, api.In{Kind: 1}), set("zero but InPeg", fine, api.In{Kind: 2})})
	for n := range 3 {
		l = append(l, at(fmt.Sprint("Witness ", n), texts(256), func(i *api.In) *[]byte { return &i.Witness[n] })...)
	}
	for _, c := range kinds(1, 2) {
		if c.name == "1" { // its Peg is set
			c.is = wrong
		}
		l = append(l, change[api.In]{"Kind " + c.name, c.is, func(i *api.In) { c.do(&i.Kind) }})
	}
	return l
}

func txs() []change[api.Tx] {
	l := slices.Concat(
		at("After", longs(), func(t *api.Tx) *uint64 { return &t.After }),
		at("Ins", lists(16, spendIn), func(t *api.Tx) *[]api.In { return &t.Ins }),
		at("Outs", lists(16, openOut), func(t *api.Tx) *[]api.Out { return &t.Outs }),
		at("In 0", ins(), func(t *api.Tx) *api.In { return &t.Ins[0] }),
		at("Out 0", outs(), func(t *api.Tx) *api.Out { return &t.Outs[0] }),
		at("Out 1", outs(), func(t *api.Tx) *api.Out { return &t.Outs[1] }),
		[]change[api.Tx]{set("zero", fine, api.Tx{}), set("an input that is zero", broken, api.Tx{Ins: make([]api.In, 1)}), set("an output that is zero", broken, api.Tx{Outs: make([]api.Out, 1)})})
	// The last ones of both lists are as full as the first ones.
	return slices.Concat(l,
		at("In 3", ins(), func(t *api.Tx) *api.In {
			t.Ins = append(t.Ins, fullIn(9))
			return &t.Ins[3]
		}),
		at("Out 2", outs(), func(t *api.Tx) *api.Out { return &t.Outs[2] }))
}

func params() []change[api.Params] {
	l := slices.Concat(
		at("T", octets(), func(p *api.Params) *int { return &p.T }),
		at("Keys", lists(16, func(n int) api.Key { return api.Key(digest(n)) }), func(p *api.Params) *[]api.Key { return &p.Keys }),
		[]change[api.Params]{set("zero", fine, api.Params{})})
	for n := range 2 {
		l = append(l, at(fmt.Sprint("Key ", n), digests(), func(p *api.Params) *api.Digest { return (*api.Digest)(&p.Keys[n]) })...)
	}
	return l
}

func headers() []change[api.Header] {
	steady := func(h *api.Header) *api.Params {
		h.Change = false
		return &h.Next
	}
	return slices.Concat(
		at("Prev", digests(), func(h *api.Header) *api.Digest { return &h.Prev }),
		at("Height", longs(), func(h *api.Header) *uint64 { return &h.Height }),
		at("Time", longs(), func(h *api.Header) *uint64 { return &h.Time }),
		at("Root", digests(), func(h *api.Header) *api.Digest { return &h.Root }),
		at("Main", digests(), func(h *api.Header) *api.Digest { return &h.Main }),
		at("Reward", texts(256), func(h *api.Header) *[]byte { return &h.Reward }),
		at("Next", params(), func(h *api.Header) *api.Params { return &h.Next }),
		at("Next without Change", []change[api.Params]{
			set("zero", fine, api.Params{}),
			set("with empty Keys", fine, api.Params{Keys: []api.Key{}}),
			set("with T 1", wrong, api.Params{T: 1}),
			set("with T -1", wrong, api.Params{T: -1}),
			set("with T 256", wrong, api.Params{T: 256}),
			set("with a key", wrong, api.Params{Keys: make([]api.Key, 1)}),
			set("with too many keys", wrong, api.Params{Keys: make([]api.Key, 17)}),
			set("full", wrong, fullParams(3)),
		}, steady),
		[]change[api.Header]{set("zero", fine, api.Header{}), set("zero but Change", fine, api.Header{Change: true})})
}

func blocks() []change[api.Block] {
	l := slices.Concat(
		at("Header", headers(), func(b *api.Block) *api.Header { return &b.Header }),
		at("Sigs", lists(16, fullSigned), func(b *api.Block) *[]api.Signed { return &b.Sigs }),
		at("Txs", lists(64, func(n int) api.Tx { return api.Tx{After: uint64(n)} }), func(b *api.Block) *[]api.Tx { return &b.Txs }),
		at("Tx 0", txs(), func(b *api.Block) *api.Tx { return &b.Txs[0] }),
		at("Tx 2", txs(), func(b *api.Block) *api.Tx { return &b.Txs[2] }),
		[]change[api.Block]{set("zero", fine, api.Block{})})
	for n := range 2 {
		l = slices.Concat(l,
			at(fmt.Sprint("Key of ", n), octets(), func(b *api.Block) *int { return &b.Sigs[n].Key }),
			field(fmt.Sprint("the first byte of Sig ", n), fine, func(b *api.Block) { b.Sigs[n].Sig[0]++ }),
			field(fmt.Sprint("the last byte of Sig ", n), fine, func(b *api.Block) { b.Sigs[n].Sig[63]++ }))
	}
	return l
}

func mainTxs() []change[api.MainTx] {
	l := slices.Concat(
		at("Nonce", longs(), func(t *api.MainTx) *uint64 { return &t.Nonce }),
		at("Outs", lists(16, func(n int) api.MainOut { return api.MainOut{Value: uint64(n), Claim: digest(n)} }), func(t *api.MainTx) *[]api.MainOut { return &t.Outs }),
		[]change[api.MainTx]{set("zero", fine, api.MainTx{})})
	for n := range 2 {
		l = slices.Concat(l,
			at(fmt.Sprint("Value ", n), longs(), func(t *api.MainTx) *uint64 { return &t.Outs[n].Value }),
			at(fmt.Sprint("Claim ", n), digests(), func(t *api.MainTx) *api.Digest { return &t.Outs[n].Claim }))
	}
	return l
}

func mainHeaders() []change[api.MainHeader] {
	return slices.Concat(
		at("Prev", digests(), func(h *api.MainHeader) *api.Digest { return &h.Prev }),
		at("Root", digests(), func(h *api.MainHeader) *api.Digest { return &h.Root }),
		at("Height", longs(), func(h *api.MainHeader) *uint64 { return &h.Height }),
		at("Nonce", longs(), func(h *api.MainHeader) *uint64 { return &h.Nonce }),
		[]change[api.MainHeader]{set("zero", fine, api.MainHeader{})})
}

func configs() []change[api.Config] {
	return slices.Concat(
		at("Peg", digests(), func(c *api.Config) *api.Digest { return &c.Peg }),
		at("Depth", longs(), func(c *api.Config) *uint64 { return &c.Depth }),
		at("Fed", params(), func(c *api.Config) *api.Params { return &c.Fed }),
		at("Main", mainHeaders(), func(c *api.Config) *api.MainHeader { return &c.Main }),
		at("Coins", lists(64, openOut), func(c *api.Config) *[]api.Out { return &c.Coins }),
		at("Coin 0", outs(), func(c *api.Config) *api.Out { return &c.Coins[0] }),
		at("Coin 1", outs(), func(c *api.Config) *api.Out { return &c.Coins[1] }),
		[]change[api.Config]{set("zero", fine, api.Config{}), set("a coin that is zero", broken, api.Config{Coins: make([]api.Out, 1)})})
}
