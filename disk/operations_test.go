package disk_test

import (
	"bytes"
	"math"
	"slices"
	"strings"
	"testing"

	"tollhouse/api"
	"tollhouse/disk"
)

// row is a call on a disk with room for ten bytes, what it answers, and what is to be seen then.
type row struct {
	before []call
	call   call
	code   api.Errno
	want   string
}

// some is where most rows begin: a has three bytes that last and two that don't, b has one that doesn't, c has none.
func some(more ...call) []call {
	return append([]call{add("a", "010203"), syn("a"), add("a", "0405"), add("b", "06"), add("c", "")}, more...)
}

const (
	someFiles = "a:010203|0405 b:|06 c:|"
	unchanged = someFiles + " free 4, steps 5"
)

func rowsHold(t *testing.T, rows []row) {
	t.Helper()
	for _, r := range rows {
		d := after(10, r.before...)
		if code := r.call.do(real{d}); code != r.code {
			t.Errorf("P14.2: after %s: %s = %d, not %d", told(r.before), r.call.text, code, r.code)
		}
		sees(t, "P14.2", d, r.want, append(slices.Clone(r.before), r.call)...)
	}
}

func TestAppend(t *testing.T) {
	rowsHold(t, []row{
		{nil, add("a", ""), ok, "a:| free 10, steps 1"},
		{nil, add("a", "01"), ok, "a:|01 free 9, steps 1"},
		{nil, add("a", "0102030405060708090a"), ok, "a:|0102030405060708090a free 0, steps 1"},
		{nil, add("a", "0102030405060708090a0b"), isFull, "free 10, steps 0"},
		{nil, add("", ""), badName, "free 10, steps 0"},
		{nil, add("", "01"), badName, "free 10, steps 0"},
		{nil, add("", "0102030405060708090a0b"), badName, "free 10, steps 0"},
		{nil, add(" ", "0102030405060708090a0b"), badName, "free 10, steps 0"},
		{some(), add("a", ""), ok, someFiles + " free 4, steps 6"},
		{some(), add("a", "07"), ok, "a:010203|040507 b:|06 c:| free 3, steps 6"},
		{some(), add("a", "0708090a"), ok, "a:010203|04050708090a b:|06 c:| free 0, steps 6"},
		{some(), add("a", "0708090a0b"), isFull, unchanged},
		{some(), add("b", "0708"), ok, "a:010203|0405 b:|060708 c:| free 2, steps 6"},
		{some(), add("c", "07"), ok, "a:010203|0405 b:|06 c:|07 free 3, steps 6"},
		{some(), add("d", "0708090a"), ok, someFiles + " d:|0708090a free 0, steps 6"},
		{some(), add("d", "0708090a0b"), isFull, unchanged},
		{some(), add("d", ""), ok, someFiles + " d:| free 4, steps 6"},
		{some(), add("A", "07"), ok, "A:|07 " + someFiles + " free 3, steps 6"},
		{some(), add("a ", "07"), badName, unchanged},
		{some(), add("a ", "0708090a0b"), badName, unchanged},
		{some(syn("b")), add("b", "07"), ok, "a:010203|0405 b:06|07 c:| free 3, steps 7"},
		{some(add("d", "0708090a")), add("d", ""), ok, someFiles + " d:|0708090a free 0, steps 7"},
		{some(add("d", "0708090a")), add("d", "00"), isFull, someFiles + " d:|0708090a free 0, steps 6"},
		{some(add("d", "0708090a")), add("e", ""), ok, someFiles + " d:|0708090a e:| free 0, steps 7"},
		{some(cut("a", 4)), add("a", "07"), ok, "a:010203|0407 b:|06 c:| free 4, steps 7"},
		{some(cut("a", 2)), add("a", "07"), ok, "a:0102|07 b:|06 c:| free 6, steps 7"},
		{some(cut("a", 0)), add("a", "0708090a0b0c0d0e0f"), ok, "a:|0708090a0b0c0d0e0f b:|06 c:| free 0, steps 7"},
		{some(cut("a", 0)), add("a", "0708090a0b0c0d0e0f10"), isFull, "a:| b:|06 c:| free 9, steps 6"},
		{some(rem("a")), add("a", "07"), ok, "a:|07 b:|06 c:| free 8, steps 7"},
		{some(ren("a", "d")), add("a", "07"), ok, "a:|07 b:|06 c:| d:010203|0405 free 3, steps 7"},
		{some(ren("a", "d")), add("d", "07"), ok, "b:|06 c:| d:010203|040507 free 3, steps 7"},
		{some(ren("a", "b")), add("b", "0708090a0b"), ok, "b:010203|04050708090a0b c:| free 0, steps 7"},
		{some(ren("a", "b")), add("b", "0708090a0b0c"), isFull, "b:010203|0405 c:| free 5, steps 6"},
	})
}

func TestSync(t *testing.T) {
	rowsHold(t, []row{
		{nil, syn("a"), isNone, "free 10, steps 0"},
		{nil, syn(""), isNone, "free 10, steps 0"},
		{some(), syn("d"), isNone, unchanged},
		{some(), syn(""), isNone, unchanged},
		{some(), syn("A"), isNone, unchanged},
		{some(), syn("aa"), isNone, unchanged},
		{some(), syn("a\x00"), isNone, unchanged},
		{some(), syn("a"), ok, "a:0102030405| b:|06 c:| free 4, steps 6"},
		{some(), syn("b"), ok, "a:010203|0405 b:06| c:| free 4, steps 6"},
		{some(), syn("c"), ok, someFiles + " free 4, steps 6"},
		{some(syn("a")), syn("a"), ok, "a:0102030405| b:|06 c:| free 4, steps 7"},
		{some(syn("a"), add("a", "07")), syn("a"), ok, "a:010203040507| b:|06 c:| free 3, steps 8"},
		{some(syn("c"), add("c", "07")), syn("c"), ok, "a:010203|0405 b:|06 c:07| free 3, steps 8"},
		{some(rem("b")), syn("b"), isNone, "a:010203|0405 c:| free 5, steps 6"},
		{some(ren("b", "d")), syn("b"), isNone, "a:010203|0405 c:| d:|06 free 4, steps 6"},
		{some(ren("b", "d")), syn("d"), ok, "a:010203|0405 c:| d:06| free 4, steps 7"},
		{some(ren("b", "a")), syn("a"), ok, "a:06| c:| free 9, steps 7"},
	})
}

func TestTruncate(t *testing.T) {
	rows := []row{
		{nil, cut("a", 0), isNone, "free 10, steps 0"},
		{nil, cut("", 0), isNone, "free 10, steps 0"},
		{some(), cut("d", 0), isNone, unchanged},
		{some(), cut("d", -1), isNone, unchanged},
		{some(), cut("d", 1), isNone, unchanged},
		{some(), cut("", -1), isNone, unchanged},
		{some(), cut("a", -1), badRange, unchanged},
		{some(), cut("a", 6), badRange, unchanged},
		{some(), cut("b", 2), badRange, unchanged},
		{some(), cut("b", -1), badRange, unchanged},
		{some(), cut("c", 1), badRange, unchanged},
		{some(), cut("c", -1), badRange, unchanged},
		{some(), cut("a", 0), ok, "a:| b:|06 c:| free 9, steps 6"},
		{some(), cut("a", 1), ok, "a:01| b:|06 c:| free 8, steps 6"},
		{some(), cut("a", 2), ok, "a:0102| b:|06 c:| free 7, steps 6"},
		{some(), cut("a", 3), ok, "a:010203| b:|06 c:| free 6, steps 6"},
		{some(), cut("a", 4), ok, "a:010203|04 b:|06 c:| free 5, steps 6"},
		{some(), cut("a", 5), ok, someFiles + " free 4, steps 6"},
		{some(), cut("b", 1), ok, someFiles + " free 4, steps 6"},
		{some(), cut("b", 0), ok, "a:010203|0405 b:| c:| free 5, steps 6"},
		{some(), cut("c", 0), ok, someFiles + " free 4, steps 6"},
		{some(cut("a", 4)), cut("a", 5), badRange, "a:010203|04 b:|06 c:| free 5, steps 6"},
		{some(cut("a", 2)), cut("a", 3), badRange, "a:0102| b:|06 c:| free 7, steps 6"},
		{some(cut("a", 2), add("a", "07")), cut("a", 3), ok, "a:0102|07 b:|06 c:| free 6, steps 8"},
		{some(cut("a", 2), add("a", "070809")), cut("a", 4), ok, "a:0102|0708 b:|06 c:| free 5, steps 8"},
		{some(cut("a", 2), add("a", "07"), syn("a")), cut("a", 3), ok, "a:010207| b:|06 c:| free 6, steps 9"},
		{some(cut("a", 0)), cut("a", 0), ok, "a:| b:|06 c:| free 9, steps 7"},
		{some(ren("a", "d")), cut("d", 4), ok, "b:|06 c:| d:010203|04 free 5, steps 7"},
		{some(rem("a")), cut("a", 0), isNone, "b:|06 c:| free 9, steps 6"},
	}
	for _, n := range far {
		rows = append(rows, row{some(), cut("a", n), badRange, unchanged}, row{some(), cut("c", n), badRange, unchanged}, row{some(), cut("d", n), isNone, unchanged})
	}
	rowsHold(t, rows)
}

func TestRename(t *testing.T) {
	rowsHold(t, []row{
		{nil, ren("a", "b"), isNone, "free 10, steps 0"},
		{nil, ren("a", "a"), isNone, "free 10, steps 0"},
		{nil, ren("a", ""), isNone, "free 10, steps 0"},
		{nil, ren("", ""), isNone, "free 10, steps 0"},
		{some(), ren("d", "a"), isNone, unchanged},
		{some(), ren("d", "d"), isNone, unchanged},
		{some(), ren("d", " "), isNone, unchanged},
		{some(), ren("", "a"), isNone, unchanged},
		{some(), ren("a", ""), badName, unchanged},
		{some(), ren("a", "a b"), badName, unchanged},
		{some(), ren("c", "\x7f"), badName, unchanged},
		{some(), ren("a", strings.Repeat("n", 33)), badName, unchanged},
		{some(), ren("a", "d"), ok, "b:|06 c:| d:010203|0405 free 4, steps 6"},
		{some(), ren("a", strings.Repeat("n", 32)), ok, "b:|06 c:| " + strings.Repeat("n", 32) + ":010203|0405 free 4, steps 6"},
		{some(), ren("a", "A"), ok, "A:010203|0405 b:|06 c:| free 4, steps 6"},
		{some(), ren("b", "d"), ok, "a:010203|0405 c:| d:|06 free 4, steps 6"},
		{some(), ren("c", "d"), ok, "a:010203|0405 b:|06 d:| free 4, steps 6"},
		{some(), ren("a", "b"), ok, "b:010203|0405 c:| free 5, steps 6"},
		{some(), ren("b", "a"), ok, "a:|06 c:| free 9, steps 6"},
		{some(), ren("a", "c"), ok, "b:|06 c:010203|0405 free 4, steps 6"},
		{some(), ren("c", "a"), ok, "a:| b:|06 free 9, steps 6"},
		{some(), ren("a", "a"), ok, someFiles + " free 4, steps 6"},
		{some(), ren("b", "b"), ok, someFiles + " free 4, steps 6"},
		{some(), ren("c", "c"), ok, someFiles + " free 4, steps 6"},
		{some(ren("a", "d")), ren("a", "e"), isNone, "b:|06 c:| d:010203|0405 free 4, steps 6"},
		{some(ren("a", "d")), ren("d", "a"), ok, someFiles + " free 4, steps 7"},
		{some(ren("a", "b")), ren("b", "a"), ok, "a:010203|0405 c:| free 5, steps 7"},
		{some(rem("b")), ren("a", "b"), ok, "b:010203|0405 c:| free 5, steps 7"},
		{some(syn("b")), ren("b", "a"), ok, "a:06| c:| free 9, steps 7"},
	})
}

func TestRemove(t *testing.T) {
	rowsHold(t, []row{
		{nil, rem("a"), isNone, "free 10, steps 0"},
		{nil, rem(""), isNone, "free 10, steps 0"},
		{some(), rem("d"), isNone, unchanged},
		{some(), rem(""), isNone, unchanged},
		{some(), rem("A"), isNone, unchanged},
		{some(), rem("a"), ok, "b:|06 c:| free 9, steps 6"},
		{some(), rem("b"), ok, "a:010203|0405 c:| free 5, steps 6"},
		{some(), rem("c"), ok, "a:010203|0405 b:|06 free 4, steps 6"},
		{some(rem("a")), rem("a"), isNone, "b:|06 c:| free 9, steps 6"},
		{some(rem("a"), rem("b")), rem("c"), ok, "free 10, steps 8"},
		{some(ren("a", "d")), rem("a"), isNone, "b:|06 c:| d:010203|0405 free 4, steps 6"},
		{some(ren("a", "d")), rem("d"), ok, "b:|06 c:| free 9, steps 7"},
		{some(ren("a", "b")), rem("b"), ok, "c:| free 10, steps 7"},
		{some(cut("a", 1)), rem("a"), ok, "b:|06 c:| free 9, steps 7"},
		{some(rem("a"), add("a", "")), rem("a"), ok, "b:|06 c:| free 9, steps 8"},
	})
}

// names are names and whether they are valid.
func names() map[string]bool {
	l := map[string]bool{
		"": false, strings.Repeat("n", 31): true, strings.Repeat("n", 32): true, strings.Repeat("n", 33): false, strings.Repeat("n", 288): false, strings.Repeat("n", 65537): false, strings.Repeat("~", 32): true, strings.Repeat("!", 32): true,
		"a/b": true, "..": true, "log.new": true, "a b": false, "é": false, "a\u00a0": false, "\xff\xfe": false, "a\n": false, strings.Repeat("n", 31) + " ": false, strings.Repeat("n", 32) + " ": false,
	}
	for b := range 256 {
		one := string([]byte{byte(b)})
		right := b >= 33 && b <= 126
		for _, n := range []string{one, one + "aa", "a" + one + "a", "aa" + one, strings.Repeat("n", 31) + one, one + strings.Repeat("n", 31), strings.Repeat("n", 15) + one + strings.Repeat("n", 16)} {
			l[n] = right
		}
		l[strings.Repeat("n", 32)+one], l[one+strings.Repeat("n", 32)] = false, false
	}
	return l
}

func TestFileNames(t *testing.T) {
	for n, right := range names() {
		d := after(10)
		want := badName
		if right {
			want = ok
		}
		if code := d.Append(n, []byte{1, 2}); code != want {
			t.Fatalf("P14.2: Append(%q) = %d, not %d", n, code, want)
		}
		if b, there := d.Read(n); there != right || len(b) != 2*len(d.Names()) || right && d.Names()[0] != n {
			t.Fatalf("P14.2: Append(%q): Read is %x %v, Names %q", n, b, there, d.Names())
		}
		d = after(10, add("zz", "01"), syn("zz"), add("zz", "02"))
		if code := d.Rename("zz", n); code != want {
			t.Fatalf("P14.2: Rename(zz, %q) = %d, not %d", n, code, want)
		}
		if _, there := d.Read("zz"); there == right {
			t.Fatalf("P14.2: Rename(zz, %q): is zz there? %v", n, there)
		}
		if right {
			sees(t, "P14.2", d, n+":01|02 free 8, steps 4")
			continue
		}
		for _, c := range []call{syn(n), cut(n, 0), ren(n, "a"), ren(n, n), rem(n)} {
			if code := c.do(real{d}); code != isNone {
				t.Fatalf("P14.2: %s = %d", c.text, code)
			}
		}
		sees(t, "P14.2", d, "zz:01|02 free 8, steps 3")
	}
}

// refused are calls that are refused on the disk that some makes, one for each error and each pair of them.
func refused() map[api.Errno][]call {
	wide := "00 0102030405060708090a"
	return map[api.Errno][]call{
		badName:  {add("", "01"), add("", wide), add("a b", wide), add("a b", ""), ren("a", ""), ren("a", "a b"), ren("c", strings.Repeat("c", 33))},
		isFull:   {add("a", wide), add("d", wide), add("c", "0102030405")},
		isNone:   {syn("d"), syn(""), cut("d", 0), cut("d", -1), cut("d", math.MaxInt), ren("d", "a"), ren("d", ""), ren("", ""), rem("d"), rem("")},
		badRange: {cut("a", -1), cut("a", 6), cut("c", 1), cut("a", math.MinInt)},
	}
}

// TestRefused: a refused call is no step, however the disk is armed.
func TestRefused(t *testing.T) {
	for _, at := range []int{-1, 0, 1, 5} {
		d := after(10, some(arm(at))...)
		before := look(real{d})
		for code, calls := range refused() {
			for _, c := range calls {
				for range 3 {
					if got := c.do(real{d}); got != code {
						t.Errorf("P14.2: %s = %d, not %d", c.text, got, code)
					}
					if d.Steps() != 5 {
						t.Fatalf("P14.2: %s was refused and is a step", c.text)
					}
				}
				sees(t, "P14.2", d, before, c)
			}
		}
	}
}

// TestDeadFirst: a dead disk tells of nothing else, whatever it is asked to do.
func TestDeadFirst(t *testing.T) {
	d := after(10, some(arm(0), syn("a"))...)
	sees(t, "P14.2", d, someFiles+" free 4, steps 6, dead")
	calls := []call{add("a", "01"), add("a", ""), add("d", ""), syn("a"), cut("a", 0), cut("a", 5), ren("a", "d"), ren("a", "a"), rem("a")}
	for _, more := range refused() {
		calls = append(calls, more...)
	}
	for range 2 {
		for _, c := range calls {
			if code := c.do(real{d}); code != isDead {
				t.Errorf("P14.2: on a dead disk %s = %d", c.text, code)
			}
			sees(t, "P14.2", d, someFiles+" free 4, steps 6, dead", c)
		}
	}
}

// TestAppendKeeps: what the caller does with its bytes afterwards is of no matter.
func TestAppendKeeps(t *testing.T) {
	for _, size := range []int{1, 2, 7, 8, 64, 1000} {
		d := disk.New(5000)
		b := make([]byte, size, size+50)
		for i := range b {
			b[i] = byte(i + 1)
		}
		want := bytes.Clone(b)
		d.Append("a", b)
		d.Append("b", b[:size/2])
		clear(b[:cap(b)])
		d.Append("b", []byte{9})
		d.Append("a", []byte{8})
		if got, _ := d.Read("a"); !bytes.Equal(got, append(bytes.Clone(want), 8)) {
			t.Errorf("P14.2: the bytes of a, %d of them, were changed by the caller: %x", size, got)
		}
		if got, _ := d.Read("b"); !bytes.Equal(got, append(bytes.Clone(want[:size/2]), 9)) {
			t.Errorf("P14.2: the bytes of b, %d of them, were changed by the caller: %x", size/2, got)
		}
	}
}
