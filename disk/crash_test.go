package disk_test

import (
	"math"
	"testing"

	"tollhouse/disk"
)

// crashes are what is found of the disk that some makes, by what is kept.
func crashes() []struct {
	keep []int
	want string
} {
	type c = struct {
		keep []int
		want string
	}
	l := []c{
		{nil, "a:010203| b:| c:| free 7, steps 0"},
		{[]int{}, "a:010203| b:| c:| free 7, steps 0"},
		{[]int{0}, "a:010203| b:| c:| free 7, steps 0"},
		{[]int{1}, "a:01020304| b:| c:| free 6, steps 0"},
		{[]int{2}, "a:0102030405| b:| c:| free 5, steps 0"},
		{[]int{3}, "a:0102030405| b:| c:| free 5, steps 0"},
		{[]int{5}, "a:0102030405| b:| c:| free 5, steps 0"},
		{[]int{-1}, "a:010203| b:| c:| free 7, steps 0"},
		{[]int{-3, 1}, "a:010203| b:06| c:| free 6, steps 0"},
		{[]int{0, 0}, "a:010203| b:| c:| free 7, steps 0"},
		{[]int{0, 1}, "a:010203| b:06| c:| free 6, steps 0"},
		{[]int{0, 2}, "a:010203| b:06| c:| free 6, steps 0"},
		{[]int{1, 1}, "a:01020304| b:06| c:| free 5, steps 0"},
		{[]int{2, 1}, "a:0102030405| b:06| c:| free 4, steps 0"},
		{[]int{2, -1}, "a:0102030405| b:| c:| free 5, steps 0"},
		{[]int{2, 1, 0}, "a:0102030405| b:06| c:| free 4, steps 0"},
		{[]int{2, 1, 9}, "a:0102030405| b:06| c:| free 4, steps 0"},
		{[]int{1, 0, 9, 9, 9}, "a:01020304| b:| c:| free 6, steps 0"},
		{[]int{0, 0, 2, 1}, "a:010203| b:| c:| free 7, steps 0"},
	}
	for _, n := range far {
		kept := "a:010203| b:06| c:| free 6, steps 0"
		if n > 0 {
			kept = "a:0102030405| b:06| c:| free 4, steps 0"
		}
		l = append(l, c{[]int{n, 1, n}, kept})
	}
	return l
}

func TestCrash(t *testing.T) {
	states := []struct {
		calls []call
		want  string
	}{
		{some(), unchanged},
		{some(arm(0)), unchanged + ", fails at 0"},
		{some(arm(4)), unchanged + ", fails at 4"},
		{some(arm(0), syn("a")), someFiles + " free 4, steps 6, dead"},
		{some(arm(0), rem("a")), someFiles + " free 4, steps 6, dead"},
	}
	for _, s := range states {
		d := after(10, s.calls...)
		for _, c := range crashes() {
			for range 2 {
				if got := look(real{d.Crash(c.keep)}); got != c.want {
					t.Errorf("P14.5: after %s: Crash(%d): %s, not %s", told(s.calls), c.keep, got, c.want)
				}
				sees(t, "P14.5", d, s.want, s.calls...)
			}
		}
	}
}

// TestCrashDead: bytes that were appended at the step that failed may be found, too.
func TestCrashDead(t *testing.T) {
	d := after(10, some(arm(0), add("b", "070809"))...)
	sees(t, "P14.5", d, "a:010203|0405 b:|06070809 c:| free 1, steps 6, dead")
	sees(t, "P14.5", d.Crash([]int{0, 3}), "a:010203| b:060708| c:| free 4, steps 0")
	sees(t, "P14.5", d.Crash([]int{2, 4}), "a:0102030405| b:06070809| c:| free 1, steps 0")
	d = after(10, some(arm(0), add("aa", "0708"))...)
	sees(t, "P14.5", d.Crash([]int{0, 1, 1}), "a:010203| aa:07| b:06| c:| free 5, steps 0")
	sees(t, "P14.5", d.Crash(nil), "a:010203| aa:| b:| c:| free 7, steps 0")
}

// TestCrashOrder: the numbers belong to the files by the order of their names, and those of files that have lost nothing count as well.
func TestCrashOrder(t *testing.T) {
	d := after(20, add("z", "0102"), add("b", "0304"), syn("b"), add("a", "0506"), add("aa", "0708"), add("B", "090a"))
	sees(t, "P14.5", d.Crash([]int{1, 2, 0, 5, 1}), "B:09| a:0506| aa:| b:0304| z:01| free 14, steps 0")
	sees(t, "P14.5", d.Crash([]int{0, 1, 1}), "B:| a:05| aa:07| b:0304| z:| free 16, steps 0")
	sees(t, "P14.5", d.Crash([]int{0, 0, 0, 0, 9}), "B:| a:| aa:| b:0304| z:0102| free 16, steps 0")
	d.Rename("z", "A")
	sees(t, "P14.5", d.Crash([]int{1, 2}), "A:01| B:090a| a:| aa:| b:0304| free 15, steps 0")
	d.Remove("A")
	sees(t, "P14.5", d.Crash([]int{1, 2}), "B:09| a:0506| aa:| b:0304| free 15, steps 0")
	d.Truncate("aa", 1)
	sees(t, "P14.5", d.Crash([]int{0, 0, 2, 2}), "B:| a:| aa:07| b:0304| free 17, steps 0")
}

// TestCrashMany: a crash of twenty files leaves each so many bytes as its number says.
func TestCrashMany(t *testing.T) {
	d := disk.New(1000)
	var keep []int
	for i := range 20 {
		name := string(rune('a' + (i*7)%20))
		d.Append(name, []byte{1, 2, 3, 4, 5, 6, 7, 8, 9, 10, 11, 12, 13, 14, 15, 16, 17, 18, 19, 20})
		keep = append(keep, i)
	}
	found := d.Crash(keep)
	for i, name := range found.Names() {
		if b, _ := found.Read(name); len(b) != i {
			t.Errorf("P14.5: file %d, %s, has %d bytes", i, name, len(b))
		}
	}
	if free := found.Free(); free != 1000-190 {
		t.Errorf("P14.5: free %d", free)
	}
}

// TestFound: what is found is a disk like others: it has its room, what it has lasts, and it may fail and crash again.
func TestFound(t *testing.T) {
	d := after(10, some(arm(0), syn("a"))...)
	e := d.Crash([]int{1})
	sees(t, "P14.5", e.Crash(nil), "a:01020304| b:| c:| free 6, steps 0")
	sees(t, "P14.5", e.Crash([]int{-1, -1, -1}), "a:01020304| b:| c:| free 6, steps 0")
	if code := e.Append("b", make([]byte, 7)); code != isFull {
		t.Errorf("P14.5: Append of more bytes than there is room for: %d", code)
	}
	if code := e.Append("b", []byte{7, 8, 9, 10, 11, 12}); code != ok {
		t.Errorf("P14.5: Append of as many bytes as there is room for: %d", code)
	}
	sees(t, "P14.5", e, "a:01020304| b:|0708090a0b0c c:| free 0, steps 1")
	e.Arm(1)
	do(real{e}, cut("a", 2), syn("b"))
	sees(t, "P14.5", e, "a:0102| b:|0708090a0b0c c:| free 2, steps 3, dead")
	sees(t, "P14.5", e.Crash([]int{0, 2}), "a:0102| b:0708| c:| free 6, steps 0")
	sees(t, "P14.5", d, someFiles+" free 4, steps 6, dead")
}

// TestCrashRoom: of whatever size the disk is, it is as large afterwards.
func TestCrashRoom(t *testing.T) {
	for _, c := range []struct{ room, free int }{{math.MinInt, 0}, {-1, 0}, {0, 0}, {1, 1}, {7, 7}, {math.MaxInt, math.MaxInt}} {
		d := disk.New(c.room)
		if got := d.Crash(nil).Free(); got != c.free {
			t.Errorf("P14.5: New(%d).Crash(nil).Free() = %d", c.room, got)
		}
		if c.free > 0 {
			do(real{d}, add("a", "01"))
			if kept, lost := d.Crash([]int{1}).Free(), d.Crash(nil).Free(); kept != c.free-1 || lost != c.free {
				t.Errorf("P14.5: New(%d): with one byte that is found %d are free, and %d when it isn't", c.room, kept, lost)
			}
		}
	}
}

// TestTwoDisks: the disk that crashed and the one that is found go their own ways, as do two that are found.
func TestTwoDisks(t *testing.T) {
	for _, keep := range [][]int{nil, {1}, {2, 1}} {
		d := after(30, some(add("a", "0a0b0c"), cut("a", 5))...)
		e, f := d.Crash(keep), d.Crash(keep)
		before, found := look(real{d}), look(real{e})
		do(real{e}, add("a", "f1f2"), flip("a", 0, 7), syn("b"), add("c", "f3"), ren("b", "e"), arm(0), syn("a"))
		sees(t, "P14.5", d, before)
		sees(t, "P14.5", f, found)
		e = d.Crash(keep)
		do(real{d}, add("a", "e1e2"), flip("a", 0, 6), flip("a", 2, 6), syn("b"), cut("a", 2), add("a", "e3e4"), rem("b"), arm(0), syn("a"))
		sees(t, "P14.5", e, found)
		sees(t, "P14.5", f, found)
		do(real{e}, add("a", "f1"))
		do(real{f}, add("a", "f2"))
		b, _ := e.Read("a")
		c, _ := f.Read("a")
		if b[len(b)-1] != 0xf1 || c[len(c)-1] != 0xf2 {
			t.Errorf("P14.5: disks that are found share memory: %x, %x", b, c)
		}
	}
}
