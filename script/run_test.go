package script_test

import (
	"bytes"
	"crypto/sha256"
	"fmt"
	"math"
	"testing"

	"tollhouse/api"
	"tollhouse/script"
)

// trues and falses are elements at the edges of what is true.
func trues() [][]byte {
	l := items("01", "02", "80", "ff", "0001", "0100", "8000", "0080", "000100", "00000000000000000000000000000001")
	for _, at := range []int{0, 1, 127, 128, 254, 255} {
		for _, x := range []byte{1, 128, 255} {
			b := make([]byte, maxItem)
			b[at] = x
			l = append(l, b)
		}
	}
	for bit := range 8 {
		l = append(l, []byte{1 << bit})
	}
	return l
}

func falses() [][]byte {
	var l [][]byte
	for _, size := range []int{0, 1, 2, 3, 8, 31, 32, 33, 64, 65, 255, maxItem} {
		l = append(l, make([]byte, size))
	}
	return l
}

func TestTruth(t *testing.T) {
	both := func(b []byte, is bool) {
		one := [][]byte{b}
		end, verify, not, branch := ok, ok, []byte(nil), []byte{7}
		if !is {
			end, verify, not, branch = errFalse, errVerify, []byte{1}, []byte{8}
		}
		runs(t, "P13.2 (the end)", nil, one, end)
		runs(t, "P13.2 (OpVerify)", program(opVerify, "0101"), one, verify)
		leaves(t, "P13.2 (OpNot)", program(opNot), one, not)
		leaves(t, "P13.2 (OpIf)", program(opIf, "0107", opElse, "0108", opEnd), one, branch)
	}
	for _, b := range trues() {
		both(b, true)
	}
	for _, b := range falses() {
		both(b, false)
	}
	for size := 1; size <= maxItem; size++ {
		for _, at := range []int{0, size / 2, size - 1} {
			b := make([]byte, size)
			both(b, false)
			b[at] = byte(size)
			if byte(size) == 0 {
				b[at] = 64
			}
			both(b, true)
		}
	}
	for x := range 256 {
		both([]byte{byte(x)}, x != 0)
	}
}

func TestPush(t *testing.T) {
	for size := range maxPush + 1 {
		b := noise(int64(size), size)
		leaves(t, "P13.2 (a push)", push(b), nil, b)
		leaves(t, "P13.2 (a push)", push(b), items("05"), []byte{5}, b)
		leaves(t, "P13.2 (a push)", program(push(b), "0109"), nil, b, []byte{9})
		runs(t, "P13.2 (a push)", program(push(b), "0101"), nil, errFalse) // two are left
		leaves(t, "P13.2 (a push)", push(times([]byte{opElse}, size)), nil, times([]byte{opElse}, size))
		leaves(t, "P13.2 (a push)", push(make([]byte, size)), nil, make([]byte, size))
	}
	leaves(t, "P13.2 (a push)", program("00", "0100", "020000"), nil, nil, []byte{0}, []byte{0, 0})
}

func TestVerify(t *testing.T) {
	leaves(t, "P13.2 (OpVerify)", program(opVerify), items("02", "01"), []byte{2})
	leaves(t, "P13.2 (OpVerify)", program(opVerify), items("00", "01"), []byte{0})
	runs(t, "P13.2 (OpVerify)", program(opVerify), items("01", "00"), errVerify)
	runs(t, "P13.2 (OpVerify)", program(opVerify), items("01", "-"), errVerify)
	runs(t, "P13.2 (OpVerify)", program(opVerify), items("01"), errFalse) // nothing is left
	runs(t, "P13.2 (OpVerify)", program(opVerify, opVerify), items("01", "00", "01"), errVerify)
	runs(t, "P13.2 (OpVerify)", program(opVerify, opVerify), items("01", "01", "01"), ok)
}

func TestNot(t *testing.T) {
	leaves(t, "P13.2 (OpNot)", program(opNot), items("00"), []byte{1})
	leaves(t, "P13.2 (OpNot)", program(opNot), items("-"), []byte{1})
	leaves(t, "P13.2 (OpNot)", program(opNot), items("01"), nil)
	leaves(t, "P13.2 (OpNot)", program(opNot, opNot), items("77"), []byte{1})
	leaves(t, "P13.2 (OpNot)", program(opNot, opNot), items("0000"), nil)
	leaves(t, "P13.2 (OpNot)", program(opNot), items("03", "04"), []byte{3}, nil)
}

func TestEqual(t *testing.T) {
	l := append(items("-", "00", "0000", "01", "0001", "0100", "0101", "02"), noise(1, 32), noise(2, 32), noise(1, 33), noise(3, 255), noise(3, maxItem))
	for i, a := range l {
		for j, b := range l {
			var want []byte
			if i == j {
				want = []byte{1}
			}
			leaves(t, "P13.2 (OpEqual)", program(opEqual), [][]byte{a, b}, want)
			leaves(t, "P13.2 (OpEqual)", program(opEqual), [][]byte{{9}, a, bytes.Clone(b)}, []byte{9}, want)
		}
	}
	for _, size := range []int{1, 2, 31, 32, 33, 255, maxItem} {
		for at := range size {
			a := noise(int64(size), size)
			b := bytes.Clone(a)
			b[at] ^= 1
			leaves(t, "P13.2 (OpEqual)", program(opEqual), [][]byte{a, b}, nil)
		}
	}
}

func TestDupDropSwap(t *testing.T) {
	a, b, c := []byte{10}, []byte{11}, []byte{12}
	three := [][]byte{a, b, c}
	leaves(t, "P13.2 (OpDup)", program(opDup), three[:1], a, a)
	leaves(t, "P13.2 (OpDup)", program(opDup), three, a, b, c, c)
	leaves(t, "P13.2 (OpDup)", program(opDup, opDup), three, a, b, c, c, c)
	leaves(t, "P13.2 (OpDup)", program(opDup, opNot), three, a, b, c, nil)
	leaves(t, "P13.2 (OpDup)", program(opDup), items("-"), nil, nil)
	leaves(t, "P13.2 (OpDrop)", program(opDrop), three, a, b)
	leaves(t, "P13.2 (OpDrop)", program(opDrop), three[:1])
	leaves(t, "P13.2 (OpDrop)", program(opDrop, opDrop), three, a)
	leaves(t, "P13.2 (OpDrop)", program(opDrop), items("05", "00"), []byte{5})
	leaves(t, "P13.2 (OpSwap)", program(opSwap), three[:2], b, a)
	leaves(t, "P13.2 (OpSwap)", program(opSwap), three, a, c, b)
	leaves(t, "P13.2 (OpSwap)", program(opSwap, opSwap), three, a, b, c)
	leaves(t, "P13.2 (OpSwap)", program(opSwap, opDrop), three, a, c)
	leaves(t, "P13.2 (OpSwap)", program(opDup, opSwap), three, a, b, c, c)
	leaves(t, "P13.2 (OpSwap)", program(opSwap, opDup), three, a, c, b, b)
	long := noise(4, maxItem)
	leaves(t, "P13.2 (OpDup)", program(opDup), [][]byte{long}, long, long)
	leaves(t, "P13.2 (OpSwap)", program(opSwap), [][]byte{long, nil}, nil, long)
}

func TestHash(t *testing.T) {
	// SHA-256 of no byte, and of "abc".
	none := hexes("e3b0c44298fc1c149afbf4c8996fb92427ae41e4649b934ca495991b7852b855")
	abc := hexes("ba7816bf8f01cfea414140de5dae2223b00361a396177a9cb410ff61f20015ad")
	runs(t, "P13.2 (OpHash)", program(opHash, push(none), opEqual), items("-"), ok)
	runs(t, "P13.2 (OpHash)", program(opHash, push(abc), opEqual), items("616263"), ok)
	runs(t, "P13.2 (OpHash)", program(opHash, push(abc), opEqual), items("616264"), errFalse)
	runs(t, "P13.2 (OpHash)", program("03616263", opHash, push(abc), opEqual), nil, ok)
	for _, size := range []int{0, 1, 31, 32, 33, 55, 56, 63, 64, 65, 119, 120, 255, maxItem} {
		b := noise(int64(size), size)
		d := sha256.Sum256(b)
		dd := sha256.Sum256(d[:])
		runs(t, "P13.2 (OpHash)", program(opHash, push(d[:]), opEqual), [][]byte{b}, ok)
		runs(t, "P13.2 (OpHash)", program(opHash, opHash, push(dd[:]), opEqual), [][]byte{b}, ok)
		runs(t, "P13.2 (OpHash)", program(opHash, push(d[:]), opEqual, opVerify), [][]byte{{1}, b}, ok)
	}
}

// operations are all of the table, with how many elements they pop and how many they push.
func operations() []struct {
	code      []byte
	pop, push int
} {
	return []struct {
		code      []byte
		pop, push int
	}{
		{hexes("00"), 0, 1}, {hexes("0101"), 0, 1}, {push(noise(1, 64)), 0, 1},
		{[]byte{opVerify}, 1, 0}, {[]byte{opNot}, 1, 1}, {[]byte{opEqual}, 2, 1}, {[]byte{opDup}, 1, 2}, {[]byte{opDrop}, 1, 0},
		{[]byte{opSwap}, 2, 2}, {[]byte{opHash}, 1, 1}, {[]byte{opSig}, 2, 1},
		{hexes("680000"), 0, 1}, {hexes("680100"), 0, 1}, {hexes("68ff00"), 0, 1}, {hexes("680001"), 2, 1}, {hexes("680101"), 2, 1}, {hexes("680002"), 4, 1}, {hexes("680202"), 4, 1},
		{hexes("680108"), 16, 1}, {hexes("680308"), 16, 1}, {[]byte{opAfter}, 1, 0},
		{hexes("6a6c"), 1, 0}, {hexes("6a6b6c"), 1, 0}, {hexes("6a616b6c"), 1, 0},
	}
}

// TestEnough: each operation on a stack that has more than enough, exactly enough, and one too few.
func TestEnough(t *testing.T) {
	for _, o := range operations() {
		for have := 0; have <= maxWitness; have++ {
			witness := many(nil, have)
			// What it pops is true where it asks for that, and no number above the height.
			for i := range witness {
				witness[i] = []byte{1}
			}
			left := have - o.pop + o.push
			if o.code[0] == opIf && len(o.code) == 4 && have >= 2 {
				left = have - 1 // the OpNot of the branch
			}
			switch {
			case have < o.pop, o.code[0] == opIf && len(o.code) == 4 && have == 1:
				runs(t, "P13.2 (too few)", o.code, witness, errStack)
				runs(t, "P13.2 (too few)", program(o.code, "0101"), witness, errStack)
			case left == 0:
				runs(t, "P13.2 (just enough)", program(o.code, "0101"), witness, ok)
				runs(t, "P13.2 (just enough)", o.code, witness, errFalse)
			default:
				runs(t, "P13.2 (enough)", program(o.code, times([]byte{opDrop}, left), "0101"), witness, ok)
				runs(t, "P13.2 (enough)", program(o.code, times([]byte{opDrop}, left-1), "0101"), witness, errFalse)
				runs(t, "P13.2 (enough)", program(o.code, times([]byte{opDrop}, left+1), "0101"), witness, errStack)
			}
		}
	}
}

// TestHigh: each operation on the highest stacks.
func TestHigh(t *testing.T) {
	for _, o := range operations() {
		for have := maxStack - 3; have <= maxStack; have++ {
			if o.code[0] == opIf && len(o.code) == 4 {
				continue
			}
			// The witness lies below: what the program pushes is what the operation pops.
			fill := program(times([]byte{opDup}, have-maxWitness))
			witness := many([]byte{1}, maxWitness)
			after := have - o.pop + o.push
			if after > maxStack {
				runs(t, "P13.2 (too high)", program(fill, o.code), witness, errStack)
				runs(t, "P13.2 (too high)", program(fill, o.code, opDrop), witness, errStack)
				runs(t, "P13.2 (too high)", program(fill, o.code, times([]byte{opDrop}, after), "0101"), witness, errStack)
				continue
			}
			runs(t, "P13.2 (high)", program(fill, o.code, times([]byte{opDrop}, after), "0101"), witness, ok)
			runs(t, "P13.2 (high)", program(fill, o.code, times([]byte{opDrop}, after-1), "0101"), witness, errFalse)
		}
	}
	for _, n := range []int{1, 2, maxStack - 1, maxStack} {
		runs(t, "P13.2 (MaxStack)", program(times(hexes("0101"), n), times([]byte{opDrop}, n-1)), nil, ok)
		runs(t, "P13.2 (MaxStack)", program(times(hexes("00"), n), times([]byte{opDrop}, n), "0101"), nil, ok)
	}
	for _, n := range []int{maxStack + 1, maxStack + 2, 2 * maxStack} {
		runs(t, "P13.2 (MaxStack)", program(times(hexes("0101"), n), times([]byte{opDrop}, n-1)), nil, errStack)
		runs(t, "P13.2 (MaxStack)", program(times(hexes("00"), n)), nil, errStack)
	}
	for from := 1; from <= maxWitness; from++ {
		witness := many([]byte{3}, from)
		up := times([]byte{opDup}, maxStack-from)
		runs(t, "P13.2 (MaxStack)", program(up, times([]byte{opDrop}, maxStack-1)), witness, ok)
		runs(t, "P13.2 (MaxStack)", program(up, opDup, times([]byte{opDrop}, maxStack)), witness, errStack)
		runs(t, "P13.2 (MaxStack)", program(up, "680000", times([]byte{opDrop}, maxStack)), witness, errStack)
		runs(t, "P13.2 (MaxStack)", program(up, opDrop, "680000", times([]byte{opDrop}, maxStack-1)), witness, ok)
		// As high as may be, again and again.
		runs(t, "P13.2 (MaxStack)", program(up, times([]byte{opDrop, opDup}, 50), times([]byte{opDrop}, maxStack-1)), witness, ok)
		// A branch that is skipped raises nothing, nor does a bracket.
		runs(t, "P13.2 (MaxStack)", program(up[1:], "00", opIf, times([]byte{opDup}, 40), opElse, opDup, opEnd, times([]byte{opDrop}, maxStack-1)), witness, ok)
		runs(t, "P13.2 (MaxStack)", program(up[1:], "0101", opIf, opDup, opElse, times([]byte{opDup}, 40), opEnd, times([]byte{opDrop}, maxStack-1)), witness, ok)
		runs(t, "P13.2 (MaxStack)", program(up[1:], "0101", opIf, opDup, opDup, opElse, opEnd, times([]byte{opDrop}, maxStack)), witness, errStack)
	}
	// Too high is told where it happens, before what would fail later.
	runs(t, "P13.2 (order)", program(times(hexes("00"), maxStack+1), opVerify), nil, errStack)
	runs(t, "P13.2 (order)", program(times(hexes("00"), maxStack), opVerify), nil, errVerify)
	runs(t, "P13.2 (order)", program(times(hexes("0109"), maxStack), opAfter), nil, errEarly)
	runs(t, "P13.2 (order)", program("00", opVerify, times(hexes("00"), maxStack+1)), nil, errVerify)
}

func TestWitnessLimits(t *testing.T) {
	drops := func(n int) []byte { return times([]byte{opDrop}, n) }
	for n := 1; n <= maxWitness; n++ {
		runs(t, "P13.2 (MaxWitness)", drops(n-1), many([]byte{1}, n), ok)
	}
	for _, n := range []int{maxWitness + 1, maxWitness + 2, maxStack, maxStack + 1, 256, 257, 65536, 1 << 20} {
		runs(t, "P13.2 (MaxWitness)", drops(min(n-1, maxScript)), make([][]byte, n), errLong)
		runs(t, "P13.2 (MaxWitness)", program("0101"), make([][]byte, n), errLong)
	}
	for at := range maxWitness {
		for _, size := range []int{0, 1, 255, maxItem} {
			witness := many([]byte{1}, maxWitness)
			witness[at] = append(make([]byte, size), 1)[1:]
			runs(t, "P13.2 (MaxItem)", program(drops(maxWitness), "0101"), witness, ok)
			runs(t, "P13.2 (MaxItem)", program("00"), witness, errFalse)
		}
		for _, size := range []int{maxItem + 1, maxItem + 2, 511, 512, 513, 65536, 65537} {
			witness := many([]byte{1}, maxWitness)
			witness[at] = make([]byte, size)
			runs(t, "P13.2 (MaxItem)", program(drops(maxWitness), "0101"), witness, errLong)
			short := witness[:at+1]
			runs(t, "P13.2 (MaxItem)", program(drops(at+1), "0101"), short, errLong)
			runs(t, "P13.2 (MaxItem)", nil, short, errLong)
		}
	}
	long := append(make([]byte, maxItem-1), 1)
	runs(t, "P13.2 (MaxItem)", nil, [][]byte{long}, ok)
	runs(t, "P13.2 (MaxItem)", nil, [][]byte{append([]byte{0}, long...)}, errLong)
	// Its place on the stack: the last one on top.
	leaves(t, "P13.2 (the witness)", nil, items("01", "02", "03"), []byte{1}, []byte{2}, []byte{3})
	leaves(t, "P13.2 (the witness)", nil, items("-", "02", "-"), nil, []byte{2}, nil)
	leaves(t, "P13.2 (the witness)", nil, nil)
	leaves(t, "P13.2 (the witness)", nil, [][]byte{})
}

// TestOrder: the form, the witness, the operations one by one, of each the stack first, and the end.
func TestOrder(t *testing.T) {
	tooMany, tooLong := many([]byte{1}, maxWitness+1), many(make([]byte, maxItem+1), 1)
	for _, witness := range [][][]byte{tooMany, tooLong} {
		runs(t, "P13.2 (the form goes first)", program("60 ff"), witness, errOp)
		runs(t, "P13.2 (the form goes first)", program("02 01"), witness, errOp)
		runs(t, "P13.2 (the form goes first)", program("60 6c"), witness, errIf)
		runs(t, "P13.2 (the form goes first)", program("6a"), witness, errIf)
		for _, p := range []string{"", "00", "00 60", "69", "65", "64 60", "6a 6c", "680110", repeated("00", 33), "09 010203040506070809 69"} {
			runs(t, "P13.2 (the witness goes before execution)", hexes(p), witness, errLong)
		}
	}
	for _, c := range []struct {
		program string
		witness [][]byte
		want    api.Errno
	}{
		// The form, before anything is executed.
		{"60 ff", items("00"), errOp}, {"00 60 ff", nil, errOp}, {"64 64 6c", nil, errIf}, {"6a 00 60", items("01"), errIf}, {"0106 69 01", nil, errOp}, {"64 6a", nil, errIf},
		// Whatever an operation would find, it doesn't look where it has too few.
		{"60", nil, errStack}, {"69", nil, errStack}, {"6a 6c", nil, errStack}, {"62", items("00"), errStack}, {"65", items("00"), errStack}, {"67", items("00"), errStack},
		{"680101", items("00"), errStack}, {"680501", items("00"), errStack}, {"68ff01", nil, errStack}, {"6800ff", items("00"), errStack}, {"61", nil, errStack}, {"63", nil, errStack}, {"64", nil, errStack}, {"66", nil, errStack},
		// One after the other.
		{"60 69", items("ff", "00"), errVerify}, {"69 60", items("00", "ff"), errEarly}, {"60 64", items("00"), errVerify}, {"60 64", items("01"), errStack}, {"69 64", items("ff"), errEarly}, {"69 64", items("05"), errStack},
		{"64 60", items("00"), errStack}, {"00 60 64 64", nil, errVerify}, {"69", items("00", "ff"), errEarly}, {"69", items("00", "05"), errFalse},
		// The end.
		{"", nil, errFalse}, {"", items("00"), errFalse}, {"", items("-"), errFalse}, {"", items("01"), ok}, {"", items("01", "01"), errFalse}, {"", items("00", "01"), errFalse}, {"", items("01", "00"), errFalse},
		{"01 01", nil, ok}, {"01 01 01 01", nil, errFalse}, {"01 00", nil, errFalse}, {"00", nil, errFalse}, {"63", items("01"), errFalse}, {"64", items("01"), errFalse}, {"64", items("01", "01"), ok}, {"64", items("01", "00"), ok}, {"64", items("00", "01"), errFalse},
		{"64 64", items("01", "01", "01"), ok}, {"01 01", items("01"), errFalse}, {"01 00", items("01"), errFalse},
	} {
		runs(t, "P13.2 (order)", hexes(c.program), c.witness, c.want)
	}
}

func repeated(digits string, n int) string { return fmt.Sprintf("%x", times(hexes(digits), n)) }

func TestAfter(t *testing.T) {
	after := program(opAfter, "0101")
	at := func(element []byte, height uint64, want api.Errno) {
		t.Helper()
		runsAt(t, "P13.2 (OpAfter)", after, [][]byte{element}, height, want)
		if len(element) <= maxPush {
			runsAt(t, "P13.2 (OpAfter)", program(push(element), opAfter), items("01"), height, want)
		}
	}
	bytesOf := func(n uint64, size int) []byte {
		b := make([]byte, size)
		for i := range b {
			b[size-1-i] = byte(n >> (8 * i))
		}
		return b
	}
	const top = math.MaxUint64
	var numbers []uint64
	for bit := range 64 {
		numbers = append(numbers, 1<<bit-1, 1<<bit, 1<<bit+1)
	}
	numbers = append(numbers, 0x0102030405060708, 0xf1f2f3f4f5f6f7f8, 0x80, 0x8000, 0x7fffffffffffffff, top-1, top)
	for _, n := range numbers {
		for size := range 9 {
			if size < 8 && n>>(8*size) != 0 {
				continue
			}
			b := bytesOf(n, size)
			at(b, n, ok)
			at(b, top, ok)
			if n > 0 {
				at(b, n-1, errEarly)
				at(b, 0, errEarly)
			}
			if n < top {
				at(b, n+1, ok)
			}
			// One byte more than eight, whatever they say.
			at(append(make([]byte, 9-size), b...), n, errEarly)
			at(append(make([]byte, 9-size), b...), top, errEarly)
		}
	}
	for height := range uint64(300) {
		at(nil, height, ok)
		for n := range uint64(256) {
			want := ok
			if n > height {
				want = errEarly
			}
			at([]byte{byte(n)}, height, want)
		}
	}
	for _, size := range []int{9, 10, 16, 32, 64, 255, maxItem} {
		at(make([]byte, size), 0, errEarly)
		at(make([]byte, size), top, errEarly)
		at(noise(1, size), top, errEarly)
	}
	at(hexes("0100000000000000"), 1, errEarly) // the most significant byte first
	at(hexes("0100000000000000"), 1<<56, ok)
	leaves(t, "P13.2 (OpAfter)", program(opAfter), items("07", "05"), []byte{7})
	leaves(t, "P13.2 (OpAfter)", program(opAfter), items("05"))
	leaves(t, "P13.2 (OpAfter)", program(opAfter, opAfter), items("08", "01", "02"), []byte{8})
}

func TestIf(t *testing.T) {
	yes, no := items("01"), items("00")
	for _, c := range []struct {
		program  string
		yes, no  api.Errno
		yesLeft  string // the bytes that are left, one an element
		noLeft   string
		comments string
	}{
		{"6a 0107 6b 0108 6c", ok, ok, "07", "08", "one of both"},
		{"6a 0107 6c", ok, ok, "07", "", "no OpElse"},
		{"6a 6b 0108 6c", ok, ok, "", "08", "the first one empty"},
		{"6a 0107 6b 6c", ok, ok, "07", "", "the second one empty"},
		{"6a 6c", ok, ok, "", "", "nothing"},
		{"6a 0107 6b 0108 6c 0109", ok, ok, "0709", "0809", "something behind it"},
		{"6a 0107 0106 6b 0108 0105 6c 0109", ok, ok, "070609", "080509", "two in each"},
		{"6a 0101 6a 0107 6b 0108 6c 6b 0101 6a 0109 6b 010a 6c 6c", ok, ok, "07", "09", "nested, true"},
		{"6a 0100 6a 0107 6b 0108 6c 6b 0100 6a 0109 6b 010a 6c 6c", ok, ok, "08", "0a", "nested, false"},
		{"6a 0101 6a 0107 6c 0106 6b 0101 6a 0109 6c 0105 6c", ok, ok, "0706", "0905", "nested without an OpElse, true"},
		{"6a 0100 6a 0107 6c 0106 6b 0100 6a 0109 6c 0105 6c", ok, ok, "06", "05", "nested without an OpElse, false"},
		{"6a 6a 6a 0107 6b 0106 6c 6b 6a 6c 6c 6b 0108 6c", errStack, ok, "", "08", "three deep, skipped"},
		{"6a 0107 6b 6a 6a 6b 6c 6b 6a 6b 6c 6c 6c", ok, errStack, "07", "", "three deep, skipped behind the OpElse"},
		{"6a 0107 6b 0108 6c 0101 6a 0106 6b 0105 6c", ok, ok, "0706", "0806", "one behind the other, true"},
		{"6a 0107 6b 0108 6c 0100 6a 0106 6b 0105 6c", ok, ok, "0705", "0805", "one behind the other, false"},
		{"6a 60 6b 69 6c", errStack, errStack, "", "", "a branch fails"},
		{"6a 0100 60 6b 0106 69 6c", errVerify, errEarly, "", "", "each branch fails in its own way"},
	} {
		for i, witness := range [][][]byte{yes, no} {
			want, left := c.yes, c.yesLeft
			if i == 1 {
				want, left = c.no, c.noLeft
			}
			if want != ok {
				runs(t, "P13.2 ("+c.comments+")", hexes(c.program), witness, want)
				continue
			}
			var l [][]byte
			for _, x := range hexes(left) {
				l = append(l, []byte{x})
			}
			leaves(t, "P13.2 ("+c.comments+")", hexes(c.program), witness, l...)
			leaves(t, "P13.2 ("+c.comments+")", hexes(c.program), append(items("03"), witness...), append([][]byte{{3}}, l...)...)
		}
	}
}

// TestSkipped: a branch that is skipped holds each operation, on a stack on which it would fail.
func TestSkipped(t *testing.T) {
	var l [][]byte
	for _, o := range operations() {
		l = append(l, o.code)
		if len(o.code) < 10 {
			l = append(l, times(o.code, 3))
		}
	}
	for b := 0x60; b < 0x6a; b++ {
		if b != opShare {
			l = append(l, []byte{byte(b)})
		}
	}
	for _, data := range []byte{opIf, opElse, opEnd, 0xff} {
		for size := range maxPush + 1 {
			l = append(l, push(times([]byte{data}, size)))
		}
		l = append(l, []byte{opShare, data, data}, []byte{opShare, opEnd, data}, []byte{opShare, data, opElse})
	}
	l = append(l, hexes("0060"), hexes("09 000000000000000000 69"), hexes("6800ff"), hexes("68ffff"), times([]byte{0}, maxStack+8), times([]byte{opDup}, 60), hexes("6a6b6c6a6c"), hexes("6a6a6b6c6b6a6c6c"), times([]byte{opDrop}, 50))
	for _, part := range l {
		leaves(t, "P13.2 (skipped)", program(opIf, part, opEnd, "0107"), items("00"), []byte{7})
		leaves(t, "P13.2 (skipped)", program(opIf, part, opElse, "0107", opEnd), items("00"), []byte{7})
		leaves(t, "P13.2 (skipped)", program(opIf, "0107", opElse, part, opEnd), items("01"), []byte{7})
		leaves(t, "P13.2 (skipped)", program(opIf, opElse, part, opEnd, "0107"), items("01"), []byte{7})
		leaves(t, "P13.2 (skipped)", program(opIf, opIf, part, opElse, part, opEnd, opElse, "0107", opEnd), items("00"), []byte{7})
		leaves(t, "P13.2 (skipped)", program(opIf, opIf, "00", opElse, "00", opEnd, part, opElse, "0107", opEnd), items("00"), []byte{7})
		leaves(t, "P13.2 (skipped)", program(opIf, "0107", opElse, opIf, part, opElse, opEnd, part, opEnd), items("01"), []byte{7})
	}
}

// TestDeep: brackets as deep as they go, with the innermost branch as the only one that is executed.
func TestDeep(t *testing.T) {
	for _, deep := range []int{1, 2, 3, 8, 16, 17, 30} {
		for which := range 1 << min(deep, 4) {
			var p []byte
			for i := range deep {
				if which>>(i%4)&1 == 1 {
					p = append(p, program("0101", opIf)...)
				} else {
					p = append(p, program("00", opIf, opVerify, opElse)...)
				}
			}
			p = append(p, 1, 9)
			for i := deep - 1; i >= 0; i-- {
				if which>>(i%4)&1 == 1 {
					p = append(p, opElse, opVerify)
				}
				p = append(p, opEnd)
			}
			leaves(t, "P13.2 (deep)", p, nil, []byte{9})
		}
	}
}

func TestSameAgain(t *testing.T) {
	p, witness := program(opDup, opHash, opEqual, opNot), items("33")
	for range 3 {
		runs(t, "R6", p, witness, ok)
		runs(t, "R6", program(opVerify), items("00"), errVerify)
		if e := script.Right(p); e != ok {
			t.Error("R6: Right:", name(e))
		}
	}
}
