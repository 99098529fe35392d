package wire_test

import (
	"bytes"
	"encoding/hex"
	"strings"
	"testing"

	"tollhouse/api"
	"tollhouse/curve"
	"tollhouse/wire"
)

// unhex reads bytes as the chapter writes them.
func unhex(parts ...string) []byte {
	b, err := hex.DecodeString(strings.ReplaceAll(strings.Join(parts, ""), " ", ""))
	if err != nil {
		panic(err)
	}
	return b
}

// zeros are so many bytes 0.
func zeros(many int) string { return strings.Repeat("00", many) }

// Two digests and two points, as bytes.
var (
	first   = "d1" + zeros(30) + "d2"
	second  = "e1" + zeros(30) + "e2"
	base    = "02 79be667ef9dcbbac55a06295ce870b07029bfcdb2dce28d959f2815b16f81798"
	negBase = "03 79be667ef9dcbbac55a06295ce870b07029bfcdb2dce28d959f2815b16f81798"
)

// rowsOfTx are the rows of the chapter's table that stand in transactions. Each is told as a whole transaction.
func rowsOfTx() map[string]struct {
	tx   api.Tx
	want []byte
} {
	d, e := api.Digest(unhex(first)), api.Digest(unhex(second))
	pay := func(t api.Tag, a api.Amount) api.Tx {
		return api.Tx{Outs: []api.Out{{Kind: api.OutPay, Asset: t, Amount: a}}}
	}
	spend := func(i api.Issue) api.Tx {
		return api.Tx{Ins: []api.In{{Kind: api.InSpend, Issue: i}}}
	}
	blind := api.Tag{Blind: true, Point: curve.Base()}
	hidden := api.Amount{Blind: true, Point: curve.Neg(curve.Base())}
	before := zeros(8) + "01 01" + zeros(36) // of an issue
	return map[string]struct {
		tx   api.Tx
		want []byte
	}{
		"POINT":           {pay(blind, hidden), unhex(zeros(8), "00 01 01 01", base, "01", negBase, zeros(4))},
		"SCALAR":          {spend(api.Issue{Kind: 2, Blind: api.Scalar{4, 3, 2, 1}}), unhex(before, "02 00", zeros(8), "00", zeros(8), zeros(32), "0000000000000001 0000000000000002 0000000000000003 0000000000000004", "00 00")},
		"OUTPOINT":        {api.Tx{Ins: []api.In{{Kind: 1, Prev: api.Outpoint{Tx: d, Index: 0x01020304}}}}, unhex(zeros(8), "01 01", first, "01020304", "00 00 00")},
		"TAG, open":       {pay(api.Tag{Id: d}, api.Amount{}), unhex(zeros(8), "00 01 01 00", first, "00", zeros(8), zeros(4))},
		"TAG, blinded":    {pay(blind, api.Amount{}), unhex(zeros(8), "00 01 01 01", base, "00", zeros(8), zeros(4))},
		"AMOUNT, open":    {pay(api.Tag{}, api.Amount{Value: 0x0102030405060708}), unhex(zeros(8), "00 01 01 00", zeros(32), "00 0102030405060708", zeros(4))},
		"AMOUNT, blinded": {pay(api.Tag{}, hidden), unhex(zeros(8), "00 01 01 00", zeros(32), "01", negBase, zeros(4))},
		"OUT": {
			api.Tx{Outs: []api.Out{{Kind: api.OutPegOut, Range: []byte{0xa1}, Surject: []byte{0xa2, 0xa3}, Note: []byte{0xa4, 0xa5, 0xa6}, Script: []byte{0xa7}}}},
			unhex(zeros(8), "00 01 04 00", zeros(32), "00", zeros(8), "01 a1 02 a2a3 03 a4a5a6 01 a7"),
		},
		"ISSUE, none": {spend(api.Issue{}), unhex(before, "00 00 00")},
		"ISSUE, new": {
			spend(api.Issue{Kind: api.IssueNew, Amount: api.Amount{Value: 9}, Range: []byte{0xb1}, Tokens: 0x0a0b, Entropy: d, Blind: api.Scalar{7}}),
			unhex(before, "01 00", zeros(7), "09 01 b1", zeros(6), "0a0b", first, zeros(31), "07 00 00"),
		},
		"ISSUE, again": {
			spend(api.Issue{Kind: api.IssueAgain, Amount: hidden, Range: []byte{0xb1}, Tokens: 0x0a0b, Entropy: d, Blind: api.Scalar{7}}),
			unhex(before, "02 01", negBase, "01 b1", zeros(6), "0a0b", first, zeros(31), "07 00 00"),
		},
		"PEG": {
			api.Tx{Ins: []api.In{{Kind: api.InPeg, Peg: api.Peg{Header: d, Tx: []byte{0xc1, 0xc2}, Place: 5, Many: 0x0600, Path: []api.Digest{e, d}, Script: []byte{0xc3}}}}},
			unhex(zeros(8), "01 02", zeros(36), "00", first, "02 c1c2 00000005 00000600 02", second, first, "01 c3", "00 00"),
		},
		"IN": {
			api.Tx{Ins: []api.In{{Kind: api.InSpend, Prev: api.Outpoint{Index: 1}, Witness: [][]byte{{0xf1}, {}, {0xf2, 0xf3}}}}},
			unhex(zeros(8), "01 01", zeros(32), "00000001 00 03 01 f1 00 02 f2f3 00"),
		},
		"TX": {
			api.Tx{After: 0x0102030405060708, Ins: []api.In{{Kind: 1}, {Kind: 1, Prev: api.Outpoint{Index: 7}}}, Outs: []api.Out{{Kind: 2}, {Kind: 3}}},
			unhex("0102030405060708 02", "01", zeros(36), "00 00", "01", zeros(35), "07 00 00", "02", "02 00", zeros(32), "00", zeros(12), "03 00", zeros(32), "00", zeros(12)),
		},
	}
}

func TestRowsOfTx(t *testing.T) {
	for row, c := range rowsOfTx() {
		if b, code := wire.Tx(c.tx); code != api.OK || !bytes.Equal(b, c.want) {
			t.Errorf("P12.1: %s: %d, %x, want %x", row, code, b, c.want)
		}
		if x, code := wire.ReadTx(c.want); code != api.OK || !same(x, c.tx) {
			t.Errorf("P12.2: %s: %d, %v, want %v", row, code, x, c.tx)
		}
	}
}

// row holds a row of the table to be written, and read, as it says.
func row[T any](t *testing.T, name string, x T, write func(x T) ([]byte, api.Errno), read func(b []byte) (T, api.Errno), want []byte) {
	t.Helper()
	if b, code := write(x); code != api.OK || !bytes.Equal(b, want) {
		t.Errorf("P12.1: %s: %d, %x, want %x", name, code, b, want)
	}
	if y, code := read(want); code != api.OK || !same(x, y) {
		t.Errorf("P12.2: %s: %d, %v, want %v", name, code, y, x)
	}
}

func TestRows(t *testing.T) {
	d, e := api.Digest(unhex(first)), api.Digest(unhex(second))
	keys := api.Params{T: 0xff, Keys: []api.Key{api.Key(e), api.Key(d)}}
	header := api.Header{Prev: d, Height: 0x0102, Time: 0x0304, Root: e, Main: d, Reward: []byte{0xaa, 0xbb}}
	told := first + zeros(6) + "0102" + zeros(6) + "0304" + second + first + "02 aabb"
	sig := api.Sig{0: 0x51, 63: 0x52}
	main := api.MainHeader{Prev: d, Root: e, Height: 0x0a, Nonce: 0x0b}
	mainTold := first + second + zeros(7) + "0a" + zeros(7) + "0b"
	fee := api.Out{Kind: api.OutFee, Amount: api.Amount{Value: 5}}
	feeTold := "02 00" + zeros(32) + "00" + zeros(7) + "05" + zeros(4)

	row(t, "PARAMS", keys, wire.Params, wire.ReadParams, unhex("ff 02", second, first))
	row(t, "HEADER without Change", header, wire.Header, wire.ReadHeader, unhex(told, "00"))
	header.Change, header.Next = true, keys
	row(t, "HEADER with Change", header, wire.Header, wire.ReadHeader, unhex(told, "01 ff 02", second, first))
	block := api.Block{Header: header, Sigs: []api.Signed{{Key: 0xfe, Sig: sig}, {}}, Txs: []api.Tx{{After: 1}, {Outs: []api.Out{fee}}}}
	row(t, "BLOCK", block, wire.Block, wire.ReadBlock, unhex(told, "01 ff 02", second, first,
		"02 fe 51", zeros(62), "52 00", zeros(64), "02", zeros(7), "01 00 00", zeros(8), "00 01", feeTold))
	row(t, "MAINTX", api.MainTx{Nonce: 0x0c, Outs: []api.MainOut{{Value: 0x0d, Claim: d}, {Claim: e}}}, wire.MainTx, wire.ReadMainTx,
		unhex(zeros(7), "0c 02", zeros(7), "0d", first, zeros(8), second))
	row(t, "MAINHEADER", main, mainHeader, wire.ReadMainHeader, unhex(mainTold))
	row(t, "CONFIG", api.Config{Peg: e, Depth: 0x0e, Fed: keys, Main: main, Coins: []api.Out{fee, fee}}, wire.Config, wire.ReadConfig,
		unhex(second, zeros(7), "0e ff 02", second, first, mainTold, "02", feeTold, feeTold))
	row(t, "OUT", fee, wire.Out, wire.ReadOut, unhex(feeTold))
}

func TestExamples(t *testing.T) {
	row(t, "the zero transaction", api.Tx{}, wire.Tx, wire.ReadTx, unhex(zeros(8), "00 00"))
	row(t, "Params({T 2, no keys})", api.Params{T: 2}, wire.Params, wire.ReadParams, unhex("02 00"))
	for _, n := range []int{256, -1} {
		if b, code := wire.Params(api.Params{T: n}); b != nil || code != api.ErrWireForm {
			t.Errorf("Params({T %d}) = %x, %d", n, b, code)
		}
	}
	row(t, "MainTx({Nonce 1, one output with Value 2})", api.MainTx{Nonce: 1, Outs: []api.MainOut{{Value: 2}}}, wire.MainTx, wire.ReadMainTx,
		unhex("0000000000000001 01 0000000000000002", zeros(32)))
	row(t, "Out({Kind OutFee, Amount {Value 5}})", api.Out{Kind: api.OutFee, Amount: api.Amount{Value: 5}}, wire.Out, wire.ReadOut,
		unhex("02 00", zeros(32), "00 0000000000000005 00 00 00 00"))
	for _, o := range []api.Out{{}, {Kind: 1, Amount: api.Amount{Value: 1, Blind: true}}, {Kind: 1, Amount: api.Amount{Value: 1, Blind: true, Point: curve.Base()}}} {
		if b, code := wire.Out(o); b != nil || code != api.ErrWireForm {
			t.Errorf("Out(%v) = %x, %d", o, b, code)
		}
	}
	if o, code := wire.ReadOut(nil); code != api.ErrWireForm || !same(o, api.Out{}) {
		t.Errorf("ReadOut(no bytes) = %v, %d", o, code)
	}
}

// TestKnown holds things with every field set against the digests of their encodings, which another program has worked out.
func TestKnown(t *testing.T) {
	tx, _ := wire.Tx(fullTx(1))
	header, _ := wire.Header(fullHeader(1))
	block, _ := wire.Block(fullBlock(1))
	out, _ := wire.Out(fullOut(1))
	mainTx, _ := wire.MainTx(fullMainTx(1))
	params, _ := wire.Params(fullParams(1))
	config, _ := wire.Config(fullConfig(1))
	for _, c := range []struct {
		name string
		b    []byte
		want string
	}{
		{"Tx", tx, "5048e7a8185cdeebf1c59d1d42fba22b13e53024389fc0301fa42a8a85f9688e"},
		{"Header", header, "15546bdb06cdaad26935866c4bb7a9ce9efacf4827403dbf0d036b6cbb481fd9"},
		{"Block", block, "6db53b915514bc05c0b1fe58b1b207fdf5e249c66b59bf390503de30592e6c33"},
		{"Out", out, "9cf054c67481ca3490e283e8835c15a4b3629ae5ad01db82c6f77be7277e741d"},
		{"MainTx", mainTx, "eee51fbe938e99a3570901e08a01c87d6051430a99fa2ee62d503ce1050ee513"},
		{"MainHeader", wire.MainHeader(fullMainHeader(1)), "b68acad206180b6486749e1068d72be2536dc5a8479fdac6c424b309e6b62a05"},
		{"Params", params, "71149a550a00183f8dda096fcc8355a256e4e2577e89dd22e98bebf18e8928f4"},
		{"Config", config, "ce61e5e0455939a9c867a2a5c75b968fe266ae96eb29ed39c7fbb209bb549073"},
	} {
		isKnown(t, "P12.1: "+c.name, digestOf(c.b), c.want)
	}
}
