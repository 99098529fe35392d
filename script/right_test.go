package script_test

import (
	"bytes"
	"strings"
	"testing"

	"tollhouse/api"
	"tollhouse/script"
)

func right(t *testing.T, p []byte, want api.Errno) {
	t.Helper()
	if e := script.Right(p); e != want {
		t.Errorf("P13.1: Right(%s) = %s, not %s", show(p), name(e), name(want))
	}
	// What has no right form is not executed, whatever there is to execute it on.
	if want == ok {
		return
	}
	for _, witness := range [][][]byte{nil, items("01"), many([]byte{1}, 16), many([]byte{1}, 17), many(make([]byte, 257), 1)} {
		runs(t, "P13.2", p, witness, want)
	}
}

func TestLongPrograms(t *testing.T) {
	for _, part := range []string{"00", "60", "62", "69", "0155", "680102", "6a6b6c", "6a6c", "0c 6a6a6a6a6a6a6a6a6a6a6a6a"} {
		one := hexes(part)
		fill := maxScript % len(one)
		full := program(times([]byte{opNot}, fill), times(one, maxScript/len(one)))
		if len(full) != maxScript {
			t.Fatal(len(full))
		}
		right(t, full, ok)
		right(t, program(full, opNot), errLong)
		right(t, program(opNot, full), errLong)
		right(t, program(full, full), errLong)
	}
	right(t, times([]byte{0xff}, maxScript), errOp)
	right(t, times([]byte{opEnd}, maxScript), errIf)
	right(t, times([]byte{opIf}, maxScript), errIf)
	// Too long goes first, whatever else is wrong.
	for _, wrong := range []int{0xff, 0x41, opShare, opElse, opEnd, opIf, 1, 64} {
		right(t, times([]byte{byte(wrong)}, maxScript+1), errLong)
		right(t, program(wrong, times([]byte{opNot}, maxScript)), errLong)
		right(t, program(times([]byte{opNot}, maxScript), wrong), errLong)
	}
	for _, size := range []int{maxScript + 1, maxScript + 2, 511, 512, 513, 65536, 65537, 1 << 20} {
		right(t, make([]byte, size), errLong)
	}
	for _, size := range []int{0, 1, 2, 64, 65, 66, 128, 255, maxScript} {
		right(t, make([]byte, size), ok)
	}
	right(t, nil, ok)
	right(t, []byte{}, ok)
}

// sizes are how many bytes the chapter lets follow each first byte; -1: it begins no operation.
func sizes() [256]int {
	var l [256]int
	for b := range l {
		switch {
		case b <= 64:
			l[b] = b
		case b < 0x60 || b > 0x6c:
			l[b] = -1
		case b == 0x68:
			l[b] = 2
		}
	}
	return l
}

func TestFirstBytes(t *testing.T) {
	for b, size := range sizes() {
		first := b
		for behind := range 70 {
			var want api.Errno
			switch {
			case size < 0 || behind < size:
				want = errOp
			case first >= opIf:
				want = errIf
			}
			// Behind the operation stand empty pushes, or what would be wrong if it were not a part of it.
			quiet := make([]byte, behind)
			right(t, program(first, quiet), want)
			right(t, program(opNot, "0162", first, quiet), want)
			right(t, program(opIf, opEnd, first, quiet), want)
			if behind <= size {
				right(t, program(first, times([]byte{0xff}, behind)), want)
				right(t, program(first, times([]byte{opEnd}, behind)), want)
				right(t, program(first, times([]byte{opIf}, behind)), want)
			}
			if size >= 0 && behind == size && want == ok {
				right(t, program(first, times([]byte{opIf}, behind), 0xff), errOp)
				right(t, program(first, times([]byte{0xff}, behind), opEnd), errIf)
				right(t, program(first, times([]byte{0x40}, behind), opIf), errIf)
				right(t, program(first, times([]byte{0x40}, behind), first, times([]byte{0x41}, behind)), ok)
			}
		}
	}
}

func TestMissingBytes(t *testing.T) {
	before := [][]byte{nil, hexes("60"), hexes("0101"), hexes("6a6c"), hexes("6a6b6c"), hexes("680000"), times([]byte{0}, 100), append([]byte{64}, make([]byte, 64)...)}
	for _, head := range before {
		for size := range maxPush + 1 {
			for there := range size {
				right(t, program(head, size, noise(int64(size), there)), errOp)
			}
			right(t, program(head, size, noise(int64(size), size)), ok)
		}
		for _, two := range []string{"", "00", "6c"} {
			right(t, program(head, opShare, two), errOp)
		}
		for _, two := range []string{"0000", "0201", "6c6c", "ffff", "6868", "4040"} {
			right(t, program(head, opShare, two), ok)
		}
	}
	// Missing at the very end of the longest program, and not missing there.
	right(t, program(times([]byte{0}, maxScript-1), 1), errOp)
	right(t, program(times([]byte{0}, maxScript-2), 1, 1), ok)
	right(t, program(times([]byte{0}, maxScript-64), 64, make([]byte, 63)), errOp)
	right(t, program(times([]byte{0}, maxScript-65), 64, make([]byte, 64)), ok)
	right(t, program(times([]byte{0}, maxScript-1), opShare), errOp)
	right(t, program(times([]byte{0}, maxScript-2), opShare, 0), errOp)
	right(t, program(times([]byte{0}, maxScript-3), opShare, 0, 0), ok)
	// What stands behind a slice's end is none of the program's.
	long := program(push(noise(9, 64)), opShare, "0101", opNot)
	for n := range len(long) {
		right(t, long[:n:n], script.Right(bytes.Clone(long[:n])))
		right(t, long[:n], script.Right(bytes.Clone(long[:n])))
	}
}

func TestBrackets(t *testing.T) {
	for _, c := range []struct {
		program string
		want    api.Errno
	}{
		{"6a", errIf}, {"6b", errIf}, {"6c", errIf},
		{"6a6c", ok}, {"6a6b6c", ok}, {"6a6b", errIf}, {"6b6c", errIf}, {"6a6b6b6c", errIf}, {"6a6c6c", errIf}, {"6a6c6b", errIf},
		{"6a6a6c6c", ok}, {"6a6a6c", errIf}, {"6a6a6b6c6b6c", ok}, {"6a6a6b6b6c6c", errIf}, {"6a6b6a6b6c6c", ok}, {"6a6b6a6b6c6b6c", errIf},
		{"6a6b6a6c6b6c", errIf}, {"6a6c6a6c", ok}, {"6a6b6c6a6b6c", ok}, {"6a6a6c6b6a6c6c", ok}, {"6a6a6b6c6b6a6b6c6c", ok}, {"6c6a", errIf}, {"6b6a6c", errIf},
		{"016a", ok}, {"016c", ok}, {"016b", ok}, {"6a016c", errIf}, {"6a016c6c", ok}, {"686a6a", ok}, {"6a686c6c", errIf}, {"6a686c6c6c", ok}, {"6a686b6b6b6c", ok},
		{"6a 60616263646566676869 0000 6b 016b 6c", ok}, {"6a 68696c", errIf}, {"6a 6869006b6b 6c", errIf}, {"6a606162636465666768 0000 69 6b 016b 6c", ok},
	} {
		right(t, hexes(c.program), c.want)
	}
}

func TestDeepBrackets(t *testing.T) {
	for _, middle := range []string{"", "00", "6b"} {
		inner := hexes(middle)
		most := maxScript / (2 + len(inner))
		for _, deep := range []int{1, 2, 3, 7, 8, 9, 16, 17, 31, 32, 33, 63, 64, 65, most - 1, most} {
			closing := program(inner, opEnd)
			if deep > most {
				continue
			}
			right(t, program(times([]byte{opIf}, deep), times(closing, deep)), ok)
			right(t, program(times([]byte{opIf}, deep), times(closing, deep-1)), errIf)
			right(t, program(times([]byte{opIf}, deep), times(closing, deep-1), inner), errIf)
			right(t, program(times([]byte{opIf}, deep-1), times(closing, deep)), errIf)
			right(t, times(program(opIf, inner, opEnd), deep), ok)
			right(t, program(times(program(opIf, inner, opEnd), deep-1), opIf, inner), errIf)
			// The first branches may nest as the second ones do.
			right(t, program(times([]byte{opIf}, deep), times([]byte{opEnd}, deep-1), inner, opEnd), ok)
		}
	}
	for _, deep := range []int{1, 2, 40, 84, 85} {
		nested := program(times([]byte{opIf, opElse}, deep), times([]byte{opEnd}, deep))
		right(t, nested, ok)
		right(t, nested[:len(nested)-1], errIf)
		for at := range deep {
			second := bytes.Clone(nested)
			second[2*deep+at] = opElse // all have had theirs
			right(t, second, errIf)
		}
	}
}

func TestFirstError(t *testing.T) {
	for _, c := range []struct {
		program string
		want    api.Errno
	}{
		{"ff6c", errOp}, {"6cff", errIf}, {"6a416c", errOp}, {"6aff", errOp}, {"6a02", errOp}, {"6a0201", errOp}, {"6a68", errOp}, {"6a6801", errOp},
		{"6b02", errIf}, {"6b41", errIf}, {"4d6b", errOp}, {"6a6b6b68", errIf}, {"6a6b686b6b68", errOp}, {"6a6b686b6b6b", errIf}, {"6a6c6c02", errIf},
		{"6a6c026c", errOp}, {"026c6c6c", errIf}, {"036c6c", errOp}, {"6a6c6d", errOp}, {"6a6c6c6d", errIf}, {"6a5f6c", errOp}, {"6a606c", ok},
		{"016d", ok}, {"01ff6d", errOp}, {"6a6d", errOp}, {"6a6b6d6b", errOp}, {"6a6b6b6d", errIf},
	} {
		right(t, hexes(c.program), c.want)
	}
}

// letter is an operation of the walk below: its bytes, and what it is among brackets.
type letter struct {
	code []byte
	as   string // "i", "e", "n"; "" for one that is no bracket; "x" for what is none, or of which bytes are missing
}

// viable tells of brackets whether more of them could still make all match: so many ends do it, or nothing does.
func viable(brackets string) bool {
	for range len(brackets) + 1 {
		if reduced(brackets) {
			return true
		}
		brackets += "n"
	}
	return false
}

// reduced tells whether all match: pairs with nothing in between are taken away until nothing is left.
func reduced(brackets string) bool {
	for {
		less := strings.ReplaceAll(strings.ReplaceAll(brackets, "ien", ""), "in", "")
		if less == brackets {
			return brackets == ""
		}
		brackets = less
	}
}

// wantRight is what the chapter says of letters, by the two functions above.
func wantRight(l []letter) api.Errno {
	brackets := ""
	for _, x := range l {
		if x.as == "x" {
			return errOp
		}
		brackets += x.as
		if !viable(brackets) {
			return errIf
		}
	}
	if !reduced(brackets) {
		return errIf
	}
	return ok
}

func TestAllShortForms(t *testing.T) {
	alphabet := []letter{
		{[]byte{opIf}, "i"}, {[]byte{opElse}, "e"}, {[]byte{opEnd}, "n"},
		{hexes("026c6b"), ""}, {hexes("686a6c"), ""}, {[]byte{opVerify}, ""}, {[]byte{0x6d}, "x"},
	}
	count := 0
	var walk func(l []letter, p []byte, left int)
	walk = func(l []letter, p []byte, left int) {
		count++
		right(t, p, wantRight(l))
		for cut := range 2 {
			right(t, program(p, opShare, make([]byte, cut)), wantRight(append(l[:len(l):len(l)], letter{nil, "x"})))
		}
		if left == 0 {
			return
		}
		for _, x := range alphabet {
			walk(append(l[:len(l):len(l)], x), program(p, x.code), left-1)
		}
	}
	walk(nil, nil, 5)
	brackets := alphabet[:3]
	var deeper func(l []letter, p []byte, left int)
	deeper = func(l []letter, p []byte, left int) {
		count++
		right(t, p, wantRight(l))
		for _, x := range brackets {
			if left > 0 {
				deeper(append(l[:len(l):len(l)], x), program(p, x.code), left-1)
			}
		}
	}
	deeper(nil, nil, 8)
	t.Logf("%d forms", count)
}
