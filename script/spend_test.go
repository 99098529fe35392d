package script_test

import (
	"bytes"
	"fmt"
	"math"
	"math/bits"
	"math/rand"
	"slices"
	"testing"

	"tollhouse/api"
	"tollhouse/script"
)

// TestSpendWorkedOut: another program made these signatures.
func TestSpendWorkedOut(t *testing.T) {
	m := script.Message(plain(), 0, firstSpent())
	s := hexes("a424c96205de6217f984e4a6dfd5c98ecdf898df80e617049ff472e93f55d55423e4c115e6580ce77a77f277fd08302fcb0c7e10fcf25796073e38b7fc63d6f4")
	if e := script.Run(payProgram(), [][]byte{s}, m, 0); e != ok {
		t.Errorf("P13.5: Pay isn't spent by one signature: %s", name(e))
	}
	m = script.Message(plain(), 1, secondSpent())
	if e := script.Run(payProgram(), [][]byte{s}, m, 0); e != errFalse {
		t.Errorf("P13.5: the signature of another message: %s", name(e))
	}
	l := items(
		"9b3da5cdeac03ab202be3da0d560a344f7e97392e6163c6fb1ce9eadaa277558ae3246736e863573e07cf45a816fe2f95f185c06edfdf2ec348329ff6afeb37e",
		"b2c42f6371719aa8ccedd085ccae4f27b454fd78bce45d36f2238694b1bdf84a23c2df2863207bc1d779d48ca73e585973b9a9038313e271141ef67b1d4933c7",
		"8f3eabb72921eb11705d977f006c8e4abca383aaa367987cf091fb74d056b61f596f42a50f1cde6fede7d8b07f88dea0c5689888a3767d538f9c41ea0389cb31",
	)
	for c := range 8 {
		witness := make([][]byte, 3)
		for i := range witness {
			if c>>i&1 == 1 {
				witness[i] = l[i]
			}
		}
		want := errFalse
		if bits.OnesCount(uint(c)) >= 2 {
			want = ok
		}
		if e := script.Run(shareProgram(), witness, m, 0); e != want {
			t.Errorf("P13.5: signatures %03b of two out of three: %s, not %s", c, name(e), name(want))
		}
	}
}

// TestSpendPay: all the way from a transaction to the signature in its input.
func TestSpendPay(t *testing.T) {
	for i, s := range signers(5) {
		spent := api.Out{Kind: api.OutPay, Asset: api.Tag{Id: api.Digest{9}}, Amount: api.Amount{Value: 6}, Script: script.Pay(s.key)}
		tx := full()
		at := i % 2
		signature := s.sign(script.Message(tx, at, spent))
		tx.Ins[at].Witness = [][]byte{signature}
		m := script.Message(tx, at, spent)
		run := func(what string, witness [][]byte, m api.Digest, want api.Errno) {
			t.Helper()
			for _, height := range []uint64{0, 1, math.MaxUint64} {
				if e := script.Run(spent.Script, witness, m, height); e != want {
					t.Errorf("P13.5: Pay, %s: %s, not %s", what, name(e), name(want))
				}
			}
		}
		run("one signature", tx.Ins[at].Witness, m, ok)
		run("none", nil, m, errStack)
		run("an empty one", [][]byte{nil}, m, errFalse)
		run("two", [][]byte{signature, signature}, m, errFalse)
		run("something below it", [][]byte{{1}, signature}, m, errFalse)
		run("something above it", [][]byte{signature, {1}}, m, errFalse)
		run("another key's", [][]byte{newSigner(99).sign(m)}, m, errFalse)
		run("a wrong one", [][]byte{make([]byte, 64)}, m, errFalse)
		run("one byte too few", [][]byte{signature[:63]}, m, errFalse)
		run("one byte too many", [][]byte{append(bytes.Clone(signature), 0)}, m, errFalse)
		run("the key itself", [][]byte{s.key[:]}, m, errFalse)
		run("of the other input", [][]byte{signature}, script.Message(tx, 1-at, spent), errFalse)
		tx.Outs[1].Amount.Value++
		run("of another transaction", [][]byte{signature}, script.Message(tx, at, spent), errFalse)
	}
}

func TestSpendShare(t *testing.T) {
	for n := 1; n <= 7; n++ {
		s := signers(n + 1)
		var good [][]byte
		for _, x := range s[:n] {
			good = append(good, x.sign(text))
		}
		for least := 1; least <= n; least++ {
			p, e := script.Share(federation(least, s[:n]))
			if e != ok {
				t.Fatal(e)
			}
			some := func(which int) [][]byte {
				witness := make([][]byte, n)
				for i := range n {
					if which>>i&1 == 1 {
						witness[i] = good[i]
					}
				}
				return witness
			}
			// All choices of few keys; of many keys those next to the one that is just enough.
			for which := range 1 << n {
				have := bits.OnesCount(uint(which))
				if n > 4 && (have < least-1 || have > least+1 || which%3 > 0) {
					continue
				}
				want := errFalse
				if have >= least {
					want = ok
				}
				runs(t, fmt.Sprintf("P13.5 (Share, %d of %d, signed by %b)", least, n, which), p, some(which), want)
			}
			for at := range n {
				// As many as are asked for, and one of them is wrong; one more is no help.
				which := (1<<least - 1) << at
				which = (which | which>>n) & (1<<n - 1)
				for _, bad := range [][]byte{make([]byte, 64), {1}, s[n].sign(text), good[(at+1)%n]} {
					if n == 1 && bytes.Equal(bad, good[0]) {
						continue
					}
					witness := some(which)
					witness[at] = bad
					runs(t, "P13.5 (Share, one wrong)", p, witness, errFalse)
					witness = some(1<<n - 1)
					witness[at] = bad
					runs(t, "P13.5 (Share, all but one wrong)", p, witness, errFalse)
				}
				runs(t, "P13.5 (Share, another message)", p, replaced(good, at, s[at].sign(api.Digest{})), errFalse)
			}
			runs(t, "P13.5 (Share, one element too few)", p, good[1:], errStack)
			runs(t, "P13.5 (Share, one element too many)", p, append(items("01"), good...), errFalse)
			runs(t, "P13.5 (Share, one element too many)", p, append(slices.Clone(good), nil), errFalse)
			runs(t, "P13.5 (Share, none)", p, nil, errStack)
			reversed := slices.Clone(good)
			slices.Reverse(reversed)
			want := ok
			if n > 1 {
				want = errFalse
			}
			runs(t, "P13.5 (Share, in another order)", p, reversed, want)
		}
	}
}

// replaced is a list with another element in one place.
func replaced(l [][]byte, at int, with []byte) [][]byte {
	l = slices.Clone(l)
	l[at] = with
	return l
}

func TestHeights(t *testing.T) {
	for _, h := range []uint64{0, 1, 2, 5, 255, 256, 65535, 65536, 1<<32 - 1, 1 << 32, 1 << 63, math.MaxUint64 - 1, math.MaxUint64} {
		p := program(push([]byte(eight(h))), opAfter, "0101")
		for _, height := range []uint64{0, 1, h / 2, h - 1, h, h + 1, h + 2, h * 2, 1 << 63, math.MaxUint64 - 1, math.MaxUint64} {
			want := ok
			if height < h {
				want = errEarly
			}
			runsAt(t, "P13.6", p, nil, height, want)
		}
	}
}

// TestGreaterHeights: what succeeds at a height does so at every greater one.
func TestGreaterHeights(t *testing.T) {
	heights := []uint64{0, 1, 2, 3, 4, 5, 6, 7, 8, 9, 254, 255, 256, 257, 1 << 16, 1 << 32, 1 << 56, 1 << 63, math.MaxUint64}
	m := &maker{
		r:       rand.New(rand.NewSource(15)),
		data:    items("01", "01", "02", "05", "07", "00", "-", "ff", "0100", "0006", "01000000000000", "0100000000000000", "ffffffffffffffff", "000000000000000001"),
		codes:   []int{0, 0, 0, opAfter, opAfter, opIf, opNot, opDup, opVerify, opSwap, opEqual, opDrop},
		deepest: 3,
	}
	ends := 0
	for range 30000 {
		p, witness := m.branch(1+m.r.Intn(8), m.deepest), m.witness(3)
		if len(p) > maxScript {
			continue
		}
		was := errEarly
		for _, height := range heights {
			e := script.Run(p, witness, text, height)
			switch {
			case was == ok && e != ok:
				t.Fatalf("P13.6: Run(%x, %s) at height %d = %s, though it succeeded below", p, showAll(witness), height, name(e))
			case was != ok && e == ok && height > 0:
				ends++
			}
			was = e
		}
	}
	if ends < 100 {
		t.Errorf("only %d programs waited for a height", ends)
	}
}
