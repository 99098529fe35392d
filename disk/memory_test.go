package disk_test

import (
	"bytes"
	"slices"
	"strings"
	"testing"
	"unsafe"

	"tollhouse/disk"
)

// TestArgumentsStay: neither Append's bytes nor Crash's numbers are changed, nor what stands behind their ends (R5).
func TestArgumentsStay(t *testing.T) {
	for _, calls := range [][]call{nil, some(), some(arm(0)), some(arm(0), syn("a")), some(cut("a", 1))} {
		for n := range 13 {
			d := after(10, calls...)
			b := []byte{21, 22, 23, 24, 25, 26, 27, 28, 29, 30, 31, 32, 33, 34, 35, 36}
			all := bytes.Clone(b)
			d.Append("a", b[:n])
			d.Append("a", b[n:n])
			d.Flip("a", 0, 1)
			d.Append("b", b[n:n+1])
			d.Truncate("a", 0)
			d.Append("a", []byte{1, 2})
			if !bytes.Equal(b, all) {
				t.Fatalf("R5: Append of %d bytes changed what it was given: %d", n, b)
			}
		}
		keep := []int{5, -1, 2, 3, 4, 5, 6, 7}
		all := slices.Clone(keep)
		for n := range keep {
			after(10, calls...).Crash(keep[:n])
			if !slices.Equal(keep, all) {
				t.Fatalf("R5: Crash changed what it was given: %d", keep)
			}
		}
	}
}

// TestCrashKeepsNoList: the numbers may be changed afterwards.
func TestCrashKeepsNoList(t *testing.T) {
	d := after(10, some()...)
	keep := []int{1, 1}
	e := d.Crash(keep)
	keep[0], keep[1] = 0, 0
	sees(t, "R5", e, "a:01020304| b:06| c:| free 5, steps 0")
}

// TestNamesKept: a name is kept by its bytes, not by the memory in which the caller has them.
func TestNamesKept(t *testing.T) {
	b := []byte("abcdef")
	name := func() string { return unsafe.String(&b[0], len(b)) }
	d := disk.New(10)
	d.Append(name(), []byte{1})
	d.Append(name(), []byte{2})
	d.Sync(name())
	d.Truncate(name(), 1)
	d.Append("other", []byte{3})
	e, f := d.Crash(nil), d.Clone()
	copy(b, "ghijkl")
	d.Rename("other", name())
	copy(b, "mnopqr")
	sees(t, "R5", d, "abcdef:01| ghijkl:|03 free 8, steps 6")
	sees(t, "R5", e, "abcdef:01| other:| free 9, steps 0")
	sees(t, "R5", f, "abcdef:01| other:|03 free 8, steps 5")
}

// TestMuch: large files are no different.
func TestMuch(t *testing.T) {
	const size = 1 << 20
	d := disk.New(3 * size)
	whole := []byte(strings.Repeat("tollhouse", size/9+1))[:size]
	for range 3 {
		if code := d.Append("a", whole); code != ok {
			t.Fatalf("P14.2: Append of %d bytes: %d", size, code)
		}
	}
	if code := d.Append("b", []byte{1}); code != isFull || d.Free() != 0 {
		t.Errorf("P14.2: Append to a full disk: %d, free %d", code, d.Free())
	}
	d.Truncate("a", size)
	d.Sync("a")
	d.Append("a", whole[:size/2])
	for _, keep := range []int{0, 1, size/2 - 1, size / 2, size} {
		found := d.Crash([]int{keep})
		b, _ := found.Read("a")
		if want := append(bytes.Clone(whole), whole[:min(keep, size/2)]...); !bytes.Equal(b, want) || found.Free() != 3*size-len(want) {
			t.Errorf("P14.5: Crash(%d) of a large file leaves %d bytes", keep, len(b))
		}
	}
}
