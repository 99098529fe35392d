package script_test

import (
	"crypto/sha256"
	"encoding/hex"
	"math"
	"math/big"
	"slices"
	"testing"

	"tollhouse/api"
	"tollhouse/curve"
	"tollhouse/script"
	"tollhouse/wire"
)

// signedDigest is the digest that the chapter asks for, by the library's hash.
func signedDigest(tx []byte, at int, out []byte) api.Digest {
	tag := sha256.Sum256([]byte("tollhouse/sign"))
	place := new(big.Int).Mod(big.NewInt(int64(at)), new(big.Int).Lsh(big.NewInt(1), 32)).FillBytes(make([]byte, 4))
	return sha256.Sum256(slices.Concat(tag[:], tag[:], tx, place, out))
}

// firstKey is that of the secret 3, of which the other program's constants are made.
const (
	firstKey  = "f9308a019258c31049344f85f89d5229b531c845836f99b08601f113bce036f9"
	secondKey = "e493dbf1c10d80f3581e4904930b1404cc6c13900ee0758474fa94abe8c4cd13"
	thirdKey  = "2f8bde4d1a07209355b4a7250a5c5128e88b84bddc619ab7cba8d569b240efe4"
)

func payProgram() []byte { return hexes("20" + firstKey + "67") }

func shareProgram() []byte {
	return hexes("20" + firstKey + "20" + secondKey + "20" + thirdKey + "680203")
}

// plain is the transaction that the other program encoded, too.
func plain() api.Tx {
	return api.Tx{
		After: 7,
		Ins: []api.In{
			{Kind: api.InSpend, Prev: api.Outpoint{Tx: api.Digest{1}, Index: 2}},
			{Kind: api.InSpend, Prev: api.Outpoint{Tx: api.Digest{3}, Index: 4}},
		},
		Outs: []api.Out{
			{Kind: api.OutPay, Asset: api.Tag{Id: api.Digest{9}}, Amount: api.Amount{Value: 5}, Script: payProgram()},
			{Kind: api.OutFee, Asset: api.Tag{Id: api.Digest{9}}, Amount: api.Amount{Value: 1}},
		},
	}
}

func firstSpent() api.Out {
	return api.Out{Kind: api.OutPay, Asset: api.Tag{Id: api.Digest{9}}, Amount: api.Amount{Value: 6}, Note: []byte("hi"), Script: payProgram()}
}

func secondSpent() api.Out {
	return api.Out{Kind: api.OutPay, Asset: api.Tag{Id: api.Digest{9}}, Amount: api.Amount{Value: 6}, Script: shareProgram()}
}

// full is a transaction with all that there may be in one.
func full() api.Tx {
	t := plain()
	t.Ins[0].Issue = api.Issue{Kind: api.IssueNew, Amount: api.Amount{Blind: true, Point: curve.Base()}, Range: []byte{1, 2}, Tokens: 3, Entropy: api.Digest{4}, Blind: api.Scalar{5}}
	t.Ins[1].Kind = api.InPeg
	t.Ins[1].Peg = api.Peg{Header: api.Digest{6}, Tx: []byte{7, 8}, Place: 9, Many: 10, Path: []api.Digest{{11}, {12}}, Script: []byte{13}}
	t.Outs[0].Asset = api.Tag{Blind: true, Point: curve.Neg(curve.Base())}
	t.Outs[0].Surject = []byte{14}
	t.Outs[0].Range = []byte{15}
	return t
}

// witnessed is the same transaction with a witness in each input.
func witnessed(t api.Tx, witness [][]byte) api.Tx {
	t.Ins = slices.Clone(t.Ins)
	for i := range t.Ins {
		t.Ins[i].Witness = witness
	}
	return t
}

func checkMessage(t *testing.T, what string, tx api.Tx, at int, spent api.Out, want api.Digest) {
	t.Helper()
	if d := script.Message(tx, at, spent); d != want {
		t.Errorf("P13.3 (%s): Message(.., %d, ..) = %x, not %x", what, at, d, want)
	}
}

// TestMessageWorkedOut: another program told these.
func TestMessageWorkedOut(t *testing.T) {
	for _, c := range []struct {
		what  string
		tx    api.Tx
		at    int
		spent api.Out
		want  string
	}{
		{"the first input", plain(), 0, firstSpent(), "fdc8d08b4f61bcf8269ed59887d67cf829f28386214aa8d0b7f7ac122aea5c29"},
		{"the second input", plain(), 1, firstSpent(), "ab640fca28f9633d623065c2d94b55b789766b9b2e5082f46e681c2ac3c285fd"},
		{"the last number", plain(), math.MaxUint32, firstSpent(), "a456f618a64e6b65da0a02cad655ed538d7733b8335f7f5c38b328249bf0da69"},
		{"below 0", plain(), -1, firstSpent(), "a456f618a64e6b65da0a02cad655ed538d7733b8335f7f5c38b328249bf0da69"},
		{"two bytes", plain(), 258, firstSpent(), "4256c1f14a1e87dbab71d9b70d54b9c4e81022ba39219b1ec41807f6275c781c"},
		{"2^32 more", plain(), 1<<32 + 258, firstSpent(), "4256c1f14a1e87dbab71d9b70d54b9c4e81022ba39219b1ec41807f6275c781c"},
		{"no transaction", api.Tx{Ins: make([]api.In, 1)}, 0, firstSpent(), "5e682b8ee705db7ab1c257d193d54fe678db0eab5803bf586934c011f7e530c0"},
		{"no output", plain(), 0, api.Out{}, "ac1d04737f53e39daf56ee7445ad5370dc580ae6b7d4bb04b2439c583c7e0919"},
		{"neither", api.Tx{Ins: make([]api.In, 1)}, 0, api.Out{}, "16e56770ea62cb2fcaacc4312144bcaf7ebbe8a2b1f457d4230eb551e983b641"},
		{"the second program", plain(), 1, secondSpent(), "4aab84932eee924a8d286aca3054bbdbeb67353fbb02d08947dea8ad92e4bf3e"},
	} {
		checkMessage(t, c.what, c.tx, c.at, c.spent, api.Digest(hexes(c.want)))
	}
}

func encoded(t *testing.T, tx api.Tx, spent api.Out) ([]byte, []byte) {
	t.Helper()
	b, e := wire.Tx(tx)
	o, f := wire.Out(spent)
	if e != ok || f != ok {
		t.Fatal("no encoding:", e, f)
	}
	return b, o
}

func TestMessagePlaces(t *testing.T) {
	b, o := encoded(t, full(), firstSpent())
	places := []int{0, 1, 2, 127, 128, 255, 256, 257, 65535, 65536, 1 << 24, 1<<24 - 1, math.MaxInt32, math.MaxInt32 + 1, math.MaxUint32, math.MaxInt64, 0x01020304, 0x0807060504030201}
	for _, at := range places {
		for _, x := range []int{at, -at, at + 1<<32, at - 1<<32, at + 1<<62, -1 - at, math.MinInt64 + at} {
			checkMessage(t, "places", full(), x, firstSpent(), signedDigest(b, x, o))
		}
	}
	checkMessage(t, "2^32", full(), 1<<32, firstSpent(), script.Message(full(), 0, firstSpent()))
	checkMessage(t, "-2^32", full(), -1<<32, firstSpent(), script.Message(full(), 0, firstSpent()))
	checkMessage(t, "below 0", full(), -1, firstSpent(), script.Message(full(), math.MaxUint32, firstSpent()))
}

func TestMessageWitnesses(t *testing.T) {
	tooMany, tooLong := make([][]byte, maxWitness+1), [][]byte{make([]byte, maxItem+1)}
	for _, tx := range []api.Tx{plain(), full(), {After: 1}, {}, {Outs: []api.Out{firstSpent()}}} {
		b, o := encoded(t, tx, secondSpent())
		want := signedDigest(b, 1, o)
		checkMessage(t, "no witness", tx, 1, secondSpent(), want)
		// None of them counts, not even one with which the transaction had no encoding.
		for _, witness := range [][][]byte{{}, {nil}, {{}}, {{0}}, items("01", "-", "02"), many(make([]byte, maxItem), maxWitness), tooMany, tooLong} {
			checkMessage(t, "a witness", witnessed(tx, witness), 1, secondSpent(), want)
			for i := range tx.Ins {
				one := tx
				one.Ins = slices.Clone(tx.Ins)
				one.Ins[i].Witness = witness
				checkMessage(t, "one witness", one, 1, secondSpent(), want)
			}
		}
	}
}

// TestMessageChanges: whatever else is another one, the message is another one.
func TestMessageChanges(t *testing.T) {
	seen := map[api.Digest]string{script.Message(full(), 0, firstSpent()): "as it was"}
	add := func(what string, tx api.Tx, at int, spent api.Out) {
		t.Helper()
		d := script.Message(tx, at, spent)
		if was, is := seen[d]; is {
			t.Errorf("P13.3: the same message of %q and of %q", what, was)
		}
		seen[d] = what
		b, o := encoded(t, tx, spent)
		checkMessage(t, what, tx, at, spent, signedDigest(b, at, o))
	}
	changes := map[string]func(*api.Tx){
		"After":         func(x *api.Tx) { x.After++ },
		"Ins":           func(x *api.Tx) { x.Ins = x.Ins[:1] },
		"Ins none":      func(x *api.Tx) { x.Ins = nil },
		"Ins order":     func(x *api.Tx) { x.Ins[0], x.Ins[1] = x.Ins[1], x.Ins[0] },
		"Prev.Tx":       func(x *api.Tx) { x.Ins[0].Prev.Tx[31]++ },
		"Prev.Index":    func(x *api.Tx) { x.Ins[1].Prev.Index++ },
		"Issue.Kind":    func(x *api.Tx) { x.Ins[0].Issue.Kind = api.IssueAgain },
		"Issue.Tokens":  func(x *api.Tx) { x.Ins[0].Issue.Tokens++ },
		"Issue none":    func(x *api.Tx) { x.Ins[0].Issue = api.Issue{} },
		"Issue.Range":   func(x *api.Tx) { x.Ins[0].Issue.Range = nil },
		"Issue.Blind":   func(x *api.Tx) { x.Ins[0].Issue.Blind[3]++ },
		"Issue.Entropy": func(x *api.Tx) { x.Ins[0].Issue.Entropy[0]++ },
		"Issue.Amount":  func(x *api.Tx) { x.Ins[0].Issue.Amount = api.Amount{Value: 1} },
		"Peg.Header":    func(x *api.Tx) { x.Ins[1].Peg.Header[5]++ },
		"Peg.Tx":        func(x *api.Tx) { x.Ins[1].Peg.Tx = []byte{8, 7} },
		"Peg.Place":     func(x *api.Tx) { x.Ins[1].Peg.Place++ },
		"Peg.Many":      func(x *api.Tx) { x.Ins[1].Peg.Many++ },
		"Peg.Path":      func(x *api.Tx) { x.Ins[1].Peg.Path = x.Ins[1].Peg.Path[:1] },
		"Peg.Script":    func(x *api.Tx) { x.Ins[1].Peg.Script = nil },
		"Outs":          func(x *api.Tx) { x.Outs = x.Outs[:1] },
		"Outs none":     func(x *api.Tx) { x.Outs = nil },
		"Outs order":    func(x *api.Tx) { x.Outs[0], x.Outs[1] = x.Outs[1], x.Outs[0] },
		"Out.Kind":      func(x *api.Tx) { x.Outs[1].Kind = api.OutBurn },
		"Out.Asset":     func(x *api.Tx) { x.Outs[1].Asset.Id[0]++ },
		"Out.Value":     func(x *api.Tx) { x.Outs[1].Amount.Value++ },
		"Out.Range":     func(x *api.Tx) { x.Outs[0].Range[0]++ },
		"Out.Surject":   func(x *api.Tx) { x.Outs[0].Surject[0]++ },
		"Out.Note":      func(x *api.Tx) { x.Outs[0].Note = []byte{1} },
		"Out.Script":    func(x *api.Tx) { x.Outs[0].Script[33]++ },
	}
	for what, change := range changes {
		tx := full()
		change(&tx)
		add("the transaction's "+what, tx, 0, firstSpent())
	}
	spents := map[string]func(*api.Out){
		"Kind":    func(x *api.Out) { x.Kind = api.OutFee },
		"Asset":   func(x *api.Out) { x.Asset.Id[31]++ },
		"Blind":   func(x *api.Out) { x.Asset = api.Tag{Blind: true, Point: curve.Base()} },
		"Value":   func(x *api.Out) { x.Amount.Value++ },
		"Point":   func(x *api.Out) { x.Amount = api.Amount{Blind: true, Point: curve.Base()} },
		"Range":   func(x *api.Out) { x.Range = []byte{1} },
		"Surject": func(x *api.Out) { x.Surject = []byte{1} },
		"Note":    func(x *api.Out) { x.Note = []byte("ho") },
		"Script":  func(x *api.Out) { x.Script = nil },
	}
	for what, change := range spents {
		spent := firstSpent()
		change(&spent)
		add("the output's "+what, full(), 0, spent)
	}
	add("the place", full(), 1, firstSpent())
	add("the place", full(), 1<<24, firstSpent())
}

// TestMessageNoEncoding: what has none counts as no byte.
func TestMessageNoEncoding(t *testing.T) {
	b, o := encoded(t, full(), firstSpent())
	badTxs := []api.Tx{
		{Ins: make([]api.In, 1)},
		{Ins: make([]api.In, 17)},
		{Outs: make([]api.Out, 1)},
		{Outs: make([]api.Out, 17)},
		{Ins: []api.In{{Kind: 1}, {Kind: 3}}},
		{Ins: []api.In{{Kind: 1, Peg: api.Peg{Place: 1}}}},
		{Ins: []api.In{{Kind: 1, Issue: api.Issue{Tokens: 1}}}},
		{Outs: []api.Out{firstSpent(), {Kind: 5}}},
		{After: 9, Outs: []api.Out{{Kind: 1, Asset: api.Tag{Blind: true, Point: curve.Zero()}}}},
		{Outs: []api.Out{{Kind: 1, Script: make([]byte, maxScript+1)}}},
	}
	badOuts := []api.Out{
		{}, {Kind: 5}, {Kind: -1}, {Kind: 1, Script: make([]byte, maxScript+1)}, {Kind: 1, Note: make([]byte, 129)}, {Kind: 1, Asset: api.Tag{Point: curve.Base()}},
		{Kind: 1, Amount: api.Amount{Blind: true}}, {Kind: 257, Script: []byte{1}},
	}
	for at := range 3 {
		for _, tx := range badTxs {
			checkMessage(t, "no transaction", tx, at, firstSpent(), signedDigest(nil, at, o))
			checkMessage(t, "no transaction", witnessed(tx, items("01")), at, firstSpent(), signedDigest(nil, at, o))
			for _, spent := range badOuts {
				checkMessage(t, "neither", tx, at, spent, signedDigest(nil, at, nil))
			}
		}
		for _, spent := range badOuts {
			checkMessage(t, "no output", full(), at, spent, signedDigest(b, at, nil))
		}
	}
	if hex.EncodeToString(o) == "" || len(b) == 0 {
		t.Fatal("nothing was held against anything")
	}
}
