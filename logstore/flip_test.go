package logstore_test

import (
	"fmt"
	"strings"
	"testing"

	"tollhouse/disk"
	"tollhouse/logstore"
)

// flipped turns each bit of a store's file, one at a time, and opens it.
func flipped(t *testing.T, what string, d *disk.Disk) {
	t.Helper()
	before := look(d)
	for i := range 8 * len(fileOf(d)) {
		if !d.Flip(log, i/8, i%8) {
			t.Fatalf("P14.6: no bit %d", i)
		}
		now := look(d)
		if s, code := logstore.Open(d, log); s != nil || code != spoilt {
			t.Fatalf("P15.7: %s: with bit %d of byte %d turned Open = %d on %s", what, i%8, i/8, code, now)
		}
		// Only a look at all files would be too slow for each bit of a long one.
		if i%11 == 0 {
			is(t, fmt.Sprintf("P15.7: %s: after Open with bit %d turned", what, i), look(d), now)
		}
		d.Flip(log, i/8, i%8)
	}
	is(t, "P15.7: "+what, look(d), before)
}

// TestFlip: after each call that answers OK.
func TestFlip(t *testing.T) {
	d, s := filled(t)
	flipped(t, "an empty store", d)
	for _, l := range [][]string{{"a"}, {"b", "c"}, {"a", "a"}, {"d"}} {
		for i, key := range l {
			if s.Commit(batch(set(key, strings.Repeat("v", i)), drop("x"))) != ok {
				t.Fatal("P15.3: a Commit is refused")
			}
		}
		flipped(t, fmt.Sprint("after Commits of ", l), d)
	}
	s.Commit(batch(drop("d")))
	flipped(t, "after a Commit that drops", d)
	s.Commit(nil)
	flipped(t, "after a Commit of nothing", d)
	s.Compact()
	flipped(t, "after a Compact", d)
	s.Commit(batch(set(strings.Repeat("k", maxKey), strings.Repeat("\xff", 300))))
	flipped(t, "after a Commit with a long value", d)
	d = d.Crash(nil)
	s = opened(t, d)
	flipped(t, "after Open", d)
	s.Commit(counted(60, drops))
	flipped(t, "after a long batch", d)
	s.Compact()
	flipped(t, "after another Compact", d)
}

// TestFlipOpened: files that Open has brought into order, and such as others have written.
func TestFlipOpened(t *testing.T) {
	whole := strings.Join(three, "")
	for _, file := range []string{whole, whole + "torn", whole[:40], three[1] + three[1], framed(set("\xff\xff", "\xff\xff\xff\xff")), framed(set("\x00", "\x00\x00\x00\x00\x00\x00\x00\x00\x00\x00\x00\x00"))} {
		d := holding(file)
		opened(t, d)
		flipped(t, fmt.Sprintf("after Open of %x", file), d)
	}
}

// TestFlipLong: a batch of the greatest length, at some of its bits.
func TestFlipLong(t *testing.T) {
	d, _ := filled(t, batch(set("a", "1")), heavy(maxFrame), batch(set("b", "2")))
	size := len(fileOf(d))
	for _, i := range []int{0, 8*18 - 1, 8 * 18, 8*19 + 5, 8 * 26, 8 * 1000003, 8*size/2 + 3, 8*(size-18) - 33, 8*(size-18) - 1, 8 * (size - 18), 8*size - 1} {
		d.Flip(log, i/8, i%8)
		if s, code := logstore.Open(d, log); s != nil || code != spoilt {
			t.Errorf("P15.7: with bit %d turned Open = %d", i, code)
		}
		d.Flip(log, i/8, i%8)
	}
	if s := opened(t, d); s.Size() != size {
		t.Errorf("P15.7: without a turned bit the size is %d, not %d", s.Size(), size)
	}
}
