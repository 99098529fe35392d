package script_test

import (
	"bytes"
	"reflect"
	"slices"
	"testing"

	"tollhouse/api"
	"tollhouse/script"
)

// roomy is the same bytes with others behind their end, which the second slice shows, too.
func roomy(b []byte) (some, all []byte) {
	all = append(bytes.Clone(b), noise(77, 40)...)
	return all[:len(b)], all
}

func roomyList(l [][]byte) (some, all [][]byte) {
	all = make([][]byte, len(l)+40)
	for i := range all {
		if i < len(l) {
			all[i], _ = roomy(l[i])
		} else {
			all[i] = noise(int64(i), 3)
		}
	}
	return all[:len(l)], all
}

// deep is a copy of all bytes, those behind the ends as well.
func deep(l [][]byte) [][]byte {
	var c [][]byte
	for _, b := range l {
		c = append(c, bytes.Clone(b[:cap(b)]))
	}
	return c
}

func TestArgumentsStay(t *testing.T) {
	s := signers(2)
	programs := [][]byte{
		nil, times([]byte{opDup}, 16), times([]byte{0}, 16), times(hexes("020102"), 10), program(opSwap, opHash, opNot), program(opDrop, opDrop, "0155", opSwap), program(opIf, "0101", opElse, "0102", opEnd), program(opDup, opEqual, opVerify, opSwap, opSwap),
		script.Pay(s[0].key), program(opSig, "0101", opSwap), program(push(s[0].key[:]), push(s[1].key[:]), "680102", opNot), program(opAfter, "0101"), program("ff"), program(opIf), times([]byte{0}, 257),
	}
	witnesses := [][][]byte{nil, items("01"), items("01", "02", "03"), {s[0].sign(text)}, {s[0].sign(text), nil}, {s[0].sign(text), s[0].key[:]}, many([]byte{5, 6}, 16), many([]byte{1}, 17)}
	for _, p := range programs {
		for _, w := range witnesses {
			before, beforeAll := roomy(p)
			witness, witnessAll := roomyList(w)
			copyP, copyW := bytes.Clone(beforeAll), deep(witnessAll)
			heads := slices.Clone(witnessAll)
			first := script.Run(before, witness, text, anyHeight)
			script.Right(before)
			if !bytes.Equal(beforeAll, copyP) || !reflect.DeepEqual(deep(witnessAll), copyW) {
				t.Fatalf("R5: Run(%s, %s) changed what it was given", show(p), showAll(w))
			}
			for i := range heads {
				if len(heads[i]) != len(witnessAll[i]) || len(heads[i]) > 0 && &heads[i][0] != &witnessAll[i][0] {
					t.Fatalf("R5: Run(%s, %s) put another element into the witness", show(p), showAll(w))
				}
			}
			if again := script.Run(before, witness, text, anyHeight); again != first {
				t.Fatalf("R6: Run(%s, %s) = %s, and then %s", show(p), showAll(w), name(first), name(again))
			}
		}
	}
}

// TestSharedElements: elements of a witness may be the same memory, or pieces of one.
func TestSharedElements(t *testing.T) {
	b := hexes("0102030405")
	leaves(t, "R5", program(opSwap, opDup), [][]byte{b, b}, b, b, b)
	leaves(t, "R5", program(opHash, opDrop, "0109"), [][]byte{b[:2], b[1:3], b[2:2]}, b[:2], b[1:3], []byte{9})
	leaves(t, "R5", program(opDup, opHash, opDrop), [][]byte{b}, b)
	leaves(t, "R5", program(opDup, opNot, opDrop), [][]byte{b}, b)
}

func TestMessageArguments(t *testing.T) {
	tx := witnessed(full(), items("01", "02"))
	tx.Ins = append(tx.Ins, api.In{Kind: 9, Witness: items("07")})
	some := tx
	some.Ins = tx.Ins[:2]
	kept := witnessed(full(), items("01", "02"))
	spent, spentKept := firstSpent(), firstSpent()
	d := script.Message(some, 0, spent)
	if !reflect.DeepEqual(some.Ins, kept.Ins) || !reflect.DeepEqual(some.Outs, kept.Outs) || some.After != kept.After || !reflect.DeepEqual(spent, spentKept) {
		t.Error("R5: Message changed what it was given")
	}
	if tx.Ins[2].Kind != 9 || !reflect.DeepEqual(tx.Ins[2].Witness, items("07")) {
		t.Error("R5: Message wrote behind the inputs' end")
	}
	if script.Message(some, 0, spent) != d {
		t.Error("R6: another message the next time")
	}
}

func TestNewMemory(t *testing.T) {
	key := api.Key(hexes(firstKey))
	spoil := func(b []byte) {
		for i := range b[:cap(b)] {
			b[:cap(b)][i] ^= 0xff
		}
	}
	a, b := script.Pay(key), script.Pay(key)
	spoil(a)
	if !bytes.Equal(b, payProgram()) || !bytes.Equal(script.Pay(key), payProgram()) {
		t.Error("R5: two results of Pay share memory")
	}
	keys := []api.Key{key, api.Key(hexes(secondKey)), api.Key(hexes(thirdKey)), {8}, {9}}
	p := api.Params{T: 2, Keys: keys[:3]}
	kept := slices.Clone(keys)
	a, _ = script.Share(p)
	b, _ = script.Share(p)
	spoil(a)
	c, _ := script.Share(p)
	if !bytes.Equal(b, shareProgram()) || !bytes.Equal(c, shareProgram()) {
		t.Error("R5: two results of Share share memory")
	}
	if !slices.Equal(keys, kept) {
		t.Error("R5: Share changed the keys")
	}
	for i := range keys {
		keys[i] = api.Key{}
	}
	if !bytes.Equal(b, shareProgram()) {
		t.Error("R5: Share kept the keys")
	}
}
