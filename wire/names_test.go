package wire_test

import (
	"crypto/sha256"
	"encoding/hex"
	"slices"
	"strings"
	"testing"

	"tollhouse/api"
	"tollhouse/merkle"
	"tollhouse/sha"
	"tollhouse/wire"
)

func digestOf(b []byte) api.Digest { return sha256.Sum256(b) }

func isKnown(t *testing.T, what string, d api.Digest, want string) {
	t.Helper()
	if hex.EncodeToString(d[:]) != want {
		t.Errorf("%s: %x, want %s", what, d, want)
	}
}

// TestKnownNames holds the names against those that another program has worked out: of full things, of zero ones, and of such as have no encoding.
func TestKnownNames(t *testing.T) {
	wrongHeader := api.Header{Next: api.Params{T: 1}}
	for _, c := range []struct {
		what string
		d    api.Digest
		want string
	}{
		{"TxId", wire.TxId(fullTx(1)), "85354b44c390feb55b3ccc4dc323e1b66348257b65b311895b7b51b0a11e2933"},
		{"TxId of zero", wire.TxId(api.Tx{}), "6ad650e99b60fbdb531d31e35e7aed78fce1134f28c9b1c89a381ab23a5fe7ad"},
		{"TxId of what has no encoding", wire.TxId(api.Tx{Ins: make([]api.In, 1)}), "7b1bf215b1f0640ba54ec726123e55e5d344bc4127dfbcdfcb94ef0b97dc75ed"},
		{"HeaderId", wire.HeaderId(fullHeader(1)), "519a5ad69c2d4aee04c8b2319a58606438586b2cf9b716f6d06c7aacd0689819"},
		{"HeaderId of zero", wire.HeaderId(api.Header{}), "1c4050d5f53037613122c8be83ed808a1cb8dfd9d70d5adb8ed44191dcfa69f3"},
		{"HeaderId of what has no encoding", wire.HeaderId(wrongHeader), "c580225b19b364de6b3a24c13433a137c516b65c720726eed2c722fe3c370c56"},
		{"MainTxId", wire.MainTxId(fullMainTx(1)), "0b0a888c0a9cd96b815e7b132ccdffca2c023c9196431455f23b0b01aae7a858"},
		{"MainTxId of zero", wire.MainTxId(api.MainTx{}), "f04734515c54d1edbb05cb257cba0fdb2f9ccad92a8e60446bf486e0e9232e4c"},
		{"MainTxId of what has no encoding", wire.MainTxId(api.MainTx{Outs: make([]api.MainOut, 17)}), "9a7828dbf5f77ec873545595512098468c7938c104e1baea9689b37fc6209801"},
		{"MainId", wire.MainId(fullMainHeader(1)), "bbccead5591107e358c432d874027eb761beddb4faa395608d2abded2815195c"},
		{"MainId of zero", wire.MainId(api.MainHeader{}), "ff3d41da3f14a52b264732cd8ea0b28d911540ce907672d5f1d4e8100e6c1ee6"},
		{"GenesisId", wire.GenesisId(fullConfig(1)), "4972e9d34006c6688c1e1b83fe0b9eed18ae343382b57638438d3de428e80d95"},
		{"GenesisId of zero", wire.GenesisId(api.Config{}), "ab6236daefc385f5c651715a43072399fcec67d1dc967c299583e519517a9871"},
		{"GenesisId of what has no encoding", wire.GenesisId(api.Config{Fed: api.Params{T: -1}}), "b16128f0765f6c362a53e0240cac4f5ed06846b5bbc1c1d21ac756a6f87c7494"},
		{"Root of none", wire.Root(nil), "bfeb3924e9918714abfb812f540453b01179629ba9c6c03440d594563fc2a8c7"},
		{"Root of one", wire.Root([]api.Tx{fullTx(1)}), "3b56459d4002aa28cdbaeffd8d9f1b4d0e6d3c2577ed242cf6b28fcb3a67579d"},
		{"Root of three", wire.Root([]api.Tx{fullTx(1), {}, fullTx(2)}), "f932805236a2f692718430dcb31cb26ef199b4d6d7f8e0eb9e84308fc3e1c68e"},
		{"Root with what has no encoding", wire.Root([]api.Tx{fullTx(1), {Outs: make([]api.Out, 1)}, fullTx(2)}), "ea9a5174dfaaf966812a2bb567865fd8beb9473cb62c333ba67ac5a3d5739cf5"},
	} {
		isKnown(t, "P12.3: "+c.what, c.d, c.want)
	}
}

// named holds a name against the digest of the tests' own bytes, for all that a thing may be, and may not be.
func named[T any](t *testing.T, what, use string, l []change[T], full func(n int) T, lay func(s *sheet, x T), name func(x T) api.Digest) {
	for _, c := range l {
		x := full(1)
		c.do(&x)
		var b []byte
		if c.is == fine {
			b = sheetOf(x, lay).bytes()
		}
		if d := name(x); d != sha.Tagged(use, b) {
			t.Errorf("P12.3: %s: %s: %x", what, c.name, d)
		}
	}
}

func TestNames(t *testing.T) {
	named(t, "HeaderId", "tollhouse/header", headers(), fullHeader, layHeader, wire.HeaderId)
	named(t, "MainTxId", "tollhouse/maintx", mainTxs(), fullMainTx, layMainTx, wire.MainTxId)
	named(t, "MainId", "tollhouse/main", mainHeaders(), fullMainHeader, layMainHeader, wire.MainId)
	named(t, "GenesisId", "tollhouse/genesis", configs(), fullConfig, layConfig, wire.GenesisId)
	named(t, "TxId", "tollhouse/tx", forTxId(), fullTx, layBare, wire.TxId)
}

// forTxId are changes of transactions: those of witnesses are all fine.
func forTxId() []change[api.Tx] {
	l := txs()
	for i, c := range l {
		if strings.Contains(c.name, "Witness") {
			l[i].is = fine
		}
	}
	return l
}

// bare is a transaction without its witnesses.
func bare(t api.Tx) api.Tx { return witnessed(t, nil) }

// witnessed is a transaction of which all inputs have a witness.
func witnessed(t api.Tx, witness [][]byte) api.Tx {
	t.Ins = slices.Clone(t.Ins)
	for i := range t.Ins {
		t.Ins[i].Witness = witness
	}
	return t
}

func layBare(s *sheet, t api.Tx) { layTx(s, bare(t)) }

func TestTxIdWithoutWitnesses(t *testing.T) {
	seen := map[string]bool{}
	for n := range 5 {
		x := fullTx(n)
		want := wire.TxId(bare(x))
		if wire.TxId(x) != want {
			t.Error("P12.5: the witnesses that it has count")
		}
		for _, c := range slices.Concat(lists(16, func(n int) []byte { return text(n, n) }), lists(16, func(int) []byte { return text(0, 257) })) {
			var w [][]byte
			c.do(&w)
			y := witnessed(x, w)
			if d := wire.TxId(y); d != want {
				t.Errorf("P12.5: a witness of %s counts: %x, want %x", c.name, d, want)
			}
			b, _ := wire.Tx(y)
			seen[string(b)] = true
		}
	}
	if len(seen) < 20 {
		t.Error("the witnesses don't stand in the encodings:", len(seen))
	}
}

// rootOf is the root that the tests work out by themselves. Where a transaction may not be, it has no bytes.
func rootOf(l []api.Tx, may []bool) api.Digest {
	var leaves []api.Digest
	for i, t := range l {
		var b []byte
		if may[i] {
			b = sheetOf(t, layTx).bytes()
		}
		leaves = append(leaves, merkle.Leaf(b))
	}
	return merkle.Root(leaves)
}

func TestRoot(t *testing.T) {
	if d := wire.Root([]api.Tx{}); d != merkle.Root(nil) {
		t.Errorf("P12.3: Root of none: %x", d)
	}
	wrong := []api.Tx{{Ins: make([]api.In, 1)}, {Outs: make([]api.Out, 17)}, witnessed(fullTx(1), [][]byte{text(0, 257)}), witnessed(fullTx(1), make([][]byte, 17))}
	for _, many := range []int{1, 2, 3, 4, 5, 8, 9, 63, 64, 65, 130} {
		var l []api.Tx
		may := slices.Repeat([]bool{true}, many)
		for i := range many {
			l = append(l, []api.Tx{fullTx(i), bare(fullTx(i)), {After: uint64(i)}}[i%3])
		}
		if d := wire.Root(l); d != rootOf(l, may) {
			t.Errorf("P12.3: Root of %d: %x", many, d)
		}
		for _, at := range []int{0, many / 2, many - 1} {
			for _, w := range wrong {
				x, may := slices.Clone(l), slices.Clone(may)
				x[at], may[at] = w, false
				if d := wire.Root(x); d != rootOf(x, may) {
					t.Errorf("P12.3: Root of %d, of which that at %d may not be: %x", many, at, d)
				}
			}
		}
	}
	x, y := fullTx(1), bare(fullTx(1))
	if wire.TxId(x) != wire.TxId(y) || wire.Root([]api.Tx{x}) == wire.Root([]api.Tx{y}) {
		t.Error("P12.3: the witnesses don't count for Root")
	}
}

func TestNamesLeaveTheirArguments(t *testing.T) {
	tx, header, mainTx, mainHeader, config := fullTx(1), fullHeader(1), fullMainTx(1), fullMainHeader(1), fullConfig(1)
	txs := rest(fullTx(1), fullTx(2), api.Tx{})
	all := func() string {
		return show(tx, true) + show(header, true) + show(mainTx, true) + show(mainHeader, true) + show(config, true) + show(txs, true)
	}
	was := all()
	for range 2 {
		wire.TxId(tx)
		wire.HeaderId(header)
		wire.MainTxId(mainTx)
		wire.MainId(mainHeader)
		wire.GenesisId(config)
		wire.Root(txs)
		if all() != was {
			t.Error("P12.5, R5: what is named is changed, or what lies behind it")
		}
	}
}
