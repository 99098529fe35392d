package logstore_test

import (
	"fmt"
	"strings"
	"testing"

	"tollhouse/api"
	"tollhouse/disk"
	"tollhouse/logstore"
)

// TestCommit: what batches do, one behind the other, and what stands in the file then.
func TestCommit(t *testing.T) {
	for _, c := range []struct {
		batches [][]api.Change
		want    string
	}{
		{[][]api.Change{batch(set("a", "1"))}, `"a"="1" size 18`},
		{[][]api.Change{batch(set("a", ""))}, `"a"="" size 17`},
		{[][]api.Change{batch(api.Change{Key: []byte("a")})}, `"a"="" size 17`},
		{[][]api.Change{batch(set("a", "1")), batch(set("a", "2"))}, `"a"="2" size 36`},
		{[][]api.Change{batch(set("a", "1")), batch(set("a", "1"))}, `"a"="1" size 36`},
		{[][]api.Change{batch(set("a", "1")), batch(set("a", ""))}, `"a"="" size 35`},
		{[][]api.Change{batch(set("a", "1")), batch(set("b", "2"))}, `"a"="1" "b"="2" size 36`},
		{[][]api.Change{batch(set("b", "2")), batch(set("a", "1"))}, `"a"="1" "b"="2" size 36`},
		{[][]api.Change{batch(set("a", "1"), set("b", "2"), set("c", "3"))}, `"a"="1" "b"="2" "c"="3" size 28`},
		{[][]api.Change{batch(drop("a"))}, `size 16`},
		{[][]api.Change{batch(drop("a")), batch(set("a", "1"))}, `"a"="1" size 34`},
		{[][]api.Change{batch(set("a", "1")), batch(drop("a"))}, `size 34`},
		{[][]api.Change{batch(set("a", "1")), batch(drop("b"))}, `"a"="1" size 34`},
		{[][]api.Change{batch(set("a", "1")), batch(drop("a")), batch(drop("a"))}, `size 50`},
		{[][]api.Change{batch(set("a", "1")), batch(drop("a")), batch(set("a", "2"))}, `"a"="2" size 52`},
		{[][]api.Change{batch(set("a", "1"), set("a", "2"))}, `"a"="2" size 23`},
		{[][]api.Change{batch(set("a", "1"), drop("a"))}, `size 21`},
		{[][]api.Change{batch(drop("a"), set("a", "1"))}, `"a"="1" size 21`},
		{[][]api.Change{batch(set("a", "1"), drop("a"), set("a", "3"))}, `"a"="3" size 26`},
		{[][]api.Change{batch(set("a", "1"), set("a", "2"), drop("a"))}, `size 26`},
		{[][]api.Change{batch(drop("a"), drop("a"))}, `size 19`},
		{[][]api.Change{batch(set("a", "1"), set("b", "2"), set("a", "3"))}, `"a"="3" "b"="2" size 28`},
		{[][]api.Change{batch(set("a", "1"), set("b", "2")), batch(drop("a"), set("c", "3")), batch(set("b", "4"), drop("d"))}, `"b"="4" "c"="3" size 65`},
		{[][]api.Change{batch(set("a", "1"), set("aa", "2")), batch(drop("a"))}, `"aa"="2" size 40`},
		{[][]api.Change{batch(set("\x00", "1"), set("\xff", "2"), set("\x00\x00", "3"))}, `"\x00"="1" "\x00\x00"="3" "\xff"="2" size 29`},
		{[][]api.Change{batch(api.Change{Key: []byte("a"), Value: []byte("1"), Drop: true})}, `size 16`},
		{[][]api.Change{batch(set("a", "1")), batch(api.Change{Key: []byte("a"), Value: []byte("2"), Drop: true})}, `size 34`},
	} {
		d, s := filled(t, c.batches...)
		file, what := "", "P15.3"
		for _, l := range c.batches {
			file += framed(l...)
			what += ": Commit(" + spell(l) + ")"
		}
		is(t, what, look(d), fmt.Sprintf("log:%x| free %d, steps %d", file, much-len(file), 2+2*len(c.batches)))
		twice(t, what, s, d, c.want)
	}
}

// TestCommitNothing: no changes are no step, whatever the disk is like.
func TestCommitNothing(t *testing.T) {
	full, dead, well := disk.New(18), disk.New(much), disk.New(much)
	for _, d := range []*disk.Disk{full, dead, well} {
		s := opened(t, d)
		s.Commit(batch(set("a", "1")))
		if d == dead {
			d.Arm(0)
			s.Commit(batch(set("a", "2")))
		}
		before := look(d)
		for _, l := range [][]api.Change{nil, batch(), make([]api.Change, 0, 5)} {
			if code := s.Commit(l); code != ok {
				t.Errorf("P15.3: Commit of nothing with %s: %d", before, code)
			}
		}
		is(t, "P15.3: after Commit of nothing", tell(s), `"a"="1" size 18`)
		is(t, "P15.3: after Commit of nothing", look(d), before)
	}
	// An armed disk doesn't come any nearer to its end.
	s := opened(t, well)
	well.Arm(1)
	s.Commit(nil)
	s.Commit(nil)
	if code := well.Append("x", nil); code != ok {
		t.Errorf("P15.3: Commit of nothing was a step: %d", code)
	}
}

// TestCommitErrors: what Frame refuses changes nothing, and counts for more than what the disk refuses.
func TestCommitErrors(t *testing.T) {
	long := strings.Repeat("k", maxKey+1)
	huge := strings.Repeat("v", maxItem+1)
	for _, c := range []struct {
		what string
		l    []api.Change
		want api.Errno
	}{
		{"an empty key", batch(set("", "1")), badKey},
		{"an empty key, dropped", batch(drop("")), badKey},
		{"a long key", batch(set(long, "1")), badKey},
		{"a long key, dropped", batch(drop(long)), badKey},
		{"a long value", batch(set("a", huge)), badValue},
		{"a wrong key behind good changes", batch(set("a", "2"), drop("b"), set("", "1")), badKey},
		{"a wrong value behind good changes", batch(set("a", "2"), drop("b"), set("c", huge)), badValue},
		{"too many changes", counted(maxBatch+1, func(key string, i int) api.Change { return set(key, "1") }), tooMany},
		{"a body that is too long", heavy(maxFrame + 1), tooMany},
	} {
		for _, kind := range []string{"a disk with room", "a full disk", "a dead disk", "a disk that is about to die"} {
			d := disk.New(much)
			if kind == "a full disk" {
				d = disk.New(23)
			}
			s := opened(t, d)
			s.Commit(batch(set("a", "1"), set("b", "")))
			switch kind {
			case "a dead disk":
				d.Arm(0)
				d.Append("x", nil)
			case "a disk that is about to die":
				d.Arm(0)
			}
			before := look(d)
			if code := s.Commit(c.l); code != c.want {
				t.Errorf("P15.3: Commit of %s on %s: %d, not %d", c.what, kind, code, c.want)
			}
			is(t, "P15.3: after Commit of "+c.what, tell(s), `"a"="1" "b"="" size 22`)
			is(t, "P15.3: after Commit of "+c.what, look(d), before)
		}
	}
}

// TestCommitFull: a frame that the disk has just room for, and one that it has not.
func TestCommitFull(t *testing.T) {
	l := batch(set("a", "12"), drop("b"))
	size := len(framed(l...))
	for _, missing := range []int{-1, 0, 1, size - 1, size} {
		d := disk.New(18 + size - missing)
		s := opened(t, d)
		s.Commit(batch(set("b", "1")))
		before := look(d)
		code := s.Commit(l)
		if missing <= 0 {
			if code != ok {
				t.Errorf("P15.3: Commit with %d bytes more than enough: %d", -missing, code)
			}
			twice(t, "P15.3: after a Commit for which there is room", s, d, fmt.Sprintf(`"a"="12" size %d`, 18+size))
			continue
		}
		if code != isFull {
			t.Errorf("P15.3: Commit with %d bytes too few: %d", missing, code)
		}
		is(t, "P15.3: after a Commit without room", look(d), before)
		twice(t, "P15.3: after a Commit without room", s, d, `"b"="1" size 18`)
	}
	// A smaller one goes on where a greater one had no room.
	d := disk.New(40)
	s := opened(t, d)
	for _, c := range []struct {
		l    []api.Change
		want api.Errno
	}{{batch(set("a", "1")), ok}, {batch(set("a", strings.Repeat("2", 10))), isFull}, {batch(set("b", "234")), ok}, {batch(drop("a")), isFull}, {nil, ok}} {
		if code := s.Commit(c.l); code != c.want {
			t.Errorf("P15.3: Commit(%s) on a small disk: %d, not %d", spell(c.l), code, c.want)
		}
	}
	twice(t, "P15.3: on a small disk", s, d, `"a"="1" "b"="234" size 38`)
}

// TestCommitDead: a disk that is dead, or dies at Append or at Sync.
func TestCommitDead(t *testing.T) {
	first, second := framed(set("a", "1")), framed(set("a", "2"), set("b", "3"))
	for at, want := range []string{
		fmt.Sprintf("log:%x|%x free %d, steps 5, dead", first, second, much-41),
		fmt.Sprintf("log:%x|%x free %d, steps 6, dead", first, second, much-41),
		fmt.Sprintf("log:%x| free %d, steps 6", first+second, much-41),
	} {
		d, s := filled(t, batch(set("a", "1")))
		d.Arm(at)
		code := s.Commit(batch(set("a", "2"), set("b", "3")))
		is(t, fmt.Sprint("P15.3: a disk that dies at step ", at), look(d), want)
		if at == 2 {
			if code != ok {
				t.Errorf("P15.3: Commit = %d, though the disk had two steps left", code)
			}
			is(t, "P15.3: with two steps left", tell(s), `"a"="2" "b"="3" size 41`)
			continue
		}
		if code != isDead {
			t.Errorf("P15.3: Commit = %d on a disk that dies at step %d", code, at)
		}
		for _, l := range [][]api.Change{batch(set("a", "5")), batch(drop("a")), batch(drop("c"))} {
			if code := s.Commit(l); code != isDead {
				t.Errorf("P15.3: Commit(%s) = %d on a dead disk", spell(l), code)
			}
		}
		is(t, "P15.3: on a dead disk", tell(s), `"a"="1" size 18`)
		is(t, "P15.3: on a dead disk", look(d), want)
	}
}

// TestCommitSyncs: what is committed lasts, with all that was in the file ahead of it.
func TestCommitSyncs(t *testing.T) {
	d, s := filled(t)
	for i := range 20 {
		key := string(rune('a' + i))
		if code := s.Commit(batch(set(key, key))); code != ok {
			t.Fatalf("P15.3: Commit = %d", code)
		}
		if d.Steps() != 2+2*(i+1) || s.Size() != 18*(i+1) || s.Len() != i+1 {
			t.Errorf("P15.3: after %d Commits: %d steps, size %d, %d keys", i+1, d.Steps(), s.Size(), s.Len())
		}
		again := opened(t, d.Crash(nil))
		is(t, "P15.3: after a crash", tell(again), tell(s))
	}
}

// TestCommitLong: the largest batches go through the file.
func TestCommitLong(t *testing.T) {
	for _, l := range [][]api.Change{
		heavy(maxFrame),
		counted(maxBatch, func(key string, i int) api.Change { return set(key, key) }),
		batch(set(strings.Repeat("k", maxKey), strings.Repeat("v", maxItem))),
	} {
		d, s := filled(t, l)
		if s.Len() != len(l) || s.Size() != len(framed(l...)) || fileOf(d) != framed(l...) {
			t.Errorf("P15.3: Commit(%s): %d keys, size %d", spell(l), s.Len(), s.Size())
		}
		again := opened(t, d.Crash(nil))
		for _, c := range l {
			for _, x := range []*logstore.Store{s, again} {
				if value, there := x.Get(c.Key); string(value) != string(c.Value) || !there {
					t.Fatalf("P15.3: Commit(%s): %d bytes for %s", spell(l), len(value), short(string(c.Key)))
				}
			}
		}
	}
}
