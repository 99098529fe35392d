package logstore_test

import (
	"fmt"
	"iter"
	"maps"
	"math/rand"
	"slices"
	"strings"
	"testing"

	"tollhouse/api"
	"tollhouse/disk"
	"tollhouse/logstore"
)

// TestGet: keys that are there, that were dropped, and that never were there.
func TestGet(t *testing.T) {
	d, s := filled(t, batch(set("a", "1"), set("b", ""), set("c", "3"), set("ab", "12"), set("\x00", "zero"), set("\xff\xfe", "high")), batch(drop("c"), set("e", "5"), api.Change{Key: []byte("f")}))
	for i, x := range []*logstore.Store{s, opened(t, d)} {
		for key, want := range map[string]string{"a": "1", "b": "", "ab": "12", "\x00": "zero", "\xff\xfe": "high", "e": "5", "f": ""} {
			if got, there := x.Get([]byte(key)); string(got) != want || !there {
				t.Errorf("P15.4: store %d: Get(%q) = %q, %v, not %q", i, key, got, there, want)
			}
		}
		for _, key := range []string{"", "c", "d", "A", "aa", "abc", "\x00\x00", "\xff", "\xfe", "a\x00", "1", strings.Repeat("a", maxKey), strings.Repeat("a", maxKey+1), strings.Repeat("a", 100000)} {
			if got, there := x.Get([]byte(key)); got != nil || there {
				t.Errorf("P15.4: store %d: Get(%s) = %q, %v", i, short(key), got, there)
			}
		}
		if got, there := x.Get(nil); got != nil || there {
			t.Errorf("P15.4: store %d: Get(nil) = %q, %v", i, got, there)
		}
		if x.Len() != 7 {
			t.Errorf("P15.4: store %d: Len = %d", i, x.Len())
		}
	}
}

// TestLen: how many keys have a value, however often they were set.
func TestLen(t *testing.T) {
	_, s := filled(t)
	for i, c := range []struct {
		l    []api.Change
		want int
	}{
		{nil, 0}, {batch(set("a", "1")), 1}, {batch(set("a", "2")), 1}, {batch(set("b", ""), set("c", ""), set("b", "1")), 3},
		{batch(drop("d")), 3}, {batch(drop("a")), 2}, {batch(drop("a")), 2}, {batch(drop("b"), set("b", "1")), 2}, {batch(set("e", "1"), drop("e")), 2}, {batch(drop("b"), drop("c")), 0}, {batch(set("", "1")), 0}, {batch(set("a", "1")), 1},
	} {
		s.Commit(c.l)
		if s.Len() != c.want {
			t.Errorf("P15.4: after batch %d, %s: Len = %d, not %d", i, spell(c.l), s.Len(), c.want)
		}
	}
}

// listed tells what a loop over an iterator sees.
func listed(l iter.Seq2[string, []byte]) string {
	var words []string
	for key, value := range l {
		words = append(words, fmt.Sprintf("%q=%q", key, value))
	}
	return strings.Join(words, " ")
}

// mixed are changes of which many keys begin alike.
func mixed() []api.Change {
	return batch(set("b", "2"), set("abc", "3"), set("a", "1"), set("ab", ""), set("\xff", "9"), set("abd", "4"), set("\x00", "0"), set("a\x00", "5"), set("ac", "6"), set("a\xff", "7"), set("B", "8"))
}

// TestFrom: which keys begin with a prefix, and in which order.
func TestFrom(t *testing.T) {
	d, s := filled(t, mixed())
	e := opened(t, d)
	for _, c := range []struct{ prefix, want string }{
		{"", `"\x00"="0" "B"="8" "a"="1" "a\x00"="5" "ab"="" "abc"="3" "abd"="4" "ac"="6" "a\xff"="7" "b"="2" "\xff"="9"`},
		{"a", `"a"="1" "a\x00"="5" "ab"="" "abc"="3" "abd"="4" "ac"="6" "a\xff"="7"`},
		{"ab", `"ab"="" "abc"="3" "abd"="4"`},
		{"abc", `"abc"="3"`},
		{"abcd", ``},
		{"abb", ``},
		{"b", `"b"="2"`},
		{"ba", ``},
		{"B", `"B"="8"`},
		{"A", ``},
		{"c", ``},
		{"\x00", `"\x00"="0"`},
		{"\x00\x00", ``},
		{"\xff", `"\xff"="9"`},
		{"\xff\xff", ``},
		{"a\xff", `"a\xff"="7"`},
		{"a\x00", `"a\x00"="5"`},
		{strings.Repeat("a", 1000), ``},
	} {
		is(t, fmt.Sprintf("P15.4: From(%q)", c.prefix), listed(s.From([]byte(c.prefix))), c.want)
		is(t, fmt.Sprintf("P15.4: From(%q), opened again", c.prefix), listed(e.From([]byte(c.prefix))), c.want)
	}
	is(t, "P15.4: From(nil)", listed(s.From(nil)), listed(s.From([]byte{})))
	_, empty := filled(t)
	for _, prefix := range []string{"", "a"} {
		is(t, "P15.4: From of an empty store", listed(empty.From([]byte(prefix))), "")
	}
}

// TestFromDrawn: the order of drawn keys, and which ones begin with drawn prefixes.
func TestFromDrawn(t *testing.T) {
	draw := rand.New(rand.NewSource(1540))
	word := func(most int) string {
		b := make([]byte, draw.Intn(most+1))
		for i := range b {
			b[i] = []byte{0, 1, 'a', 'b', 127, 128, 255}[draw.Intn(7)]
		}
		return string(b)
	}
	for range 40 {
		_, s := filled(t)
		all := map[string]string{}
		for range draw.Intn(150) {
			key, value := word(6)+"x", word(4)
			s.Commit(batch(set(key, value)))
			all[key] = value
			if draw.Intn(3) == 0 {
				key := word(2) + "x"
				s.Commit(batch(drop(key)))
				delete(all, key)
			}
		}
		for range 30 {
			prefix := word(3)
			var want []string
			for _, key := range slices.Sorted(maps.Keys(all)) {
				if strings.HasPrefix(key, prefix) {
					want = append(want, fmt.Sprintf("%q=%q", key, all[key]))
				}
			}
			is(t, fmt.Sprintf("P15.4: From(%q)", prefix), listed(s.From([]byte(prefix))), strings.Join(want, " "))
		}
		if s.Len() != len(all) {
			t.Errorf("P15.4: Len = %d, not %d", s.Len(), len(all))
		}
	}
}

// TestFromDuring: a loop sees what was when it began, whatever is done while it runs.
func TestFromDuring(t *testing.T) {
	before := `"a"="1" "b"="2" "c"="3" "d"="4"`
	for _, c := range []struct {
		what  string
		do    func(d *disk.Disk, s *logstore.Store)
		after string
	}{
		{"nothing", func(d *disk.Disk, s *logstore.Store) {}, before},
		{"a key comes", func(d *disk.Disk, s *logstore.Store) { s.Commit(batch(set("bb", "9"), set("e", "9"), set("A", "9"))) }, `"A"="9" "a"="1" "b"="2" "bb"="9" "c"="3" "d"="4" "e"="9"`},
		{"values change", func(d *disk.Disk, s *logstore.Store) { s.Commit(batch(set("a", "8"), set("b", "8"), set("d", "88"))) }, `"a"="8" "b"="8" "c"="3" "d"="88"`},
		{"keys go", func(d *disk.Disk, s *logstore.Store) { s.Commit(batch(drop("a"), drop("b"), drop("c"), drop("d"))) }, ``},
		{"keys go and come", func(d *disk.Disk, s *logstore.Store) { s.Commit(batch(drop("c"), set("c", "7"), drop("d"))) }, `"a"="1" "b"="2" "c"="7"`},
		{"a Compact", func(d *disk.Disk, s *logstore.Store) { s.Compact() }, before},
		{"a Commit and a Compact", func(d *disk.Disk, s *logstore.Store) { s.Commit(batch(drop("d"), set("c", "6"))); s.Compact() }, `"a"="1" "b"="2" "c"="6"`},
		{"a Commit that is refused", func(d *disk.Disk, s *logstore.Store) { d.Arm(1); s.Commit(batch(drop("d"), set("c", "6"))) }, before},
		{"the file goes", func(d *disk.Disk, s *logstore.Store) { d.Remove(log) }, before},
		{"the file is spoilt", func(d *disk.Disk, s *logstore.Store) { d.Flip(log, 13, 0) }, before},
	} {
		for at := range 4 {
			d, s := filled(t, batch(set("c", "3"), set("a", "1")), batch(set("d", "4"), set("b", "2")))
			all := s.From(nil)
			var words []string
			for key, value := range all {
				if len(words) == at {
					c.do(d, s)
				}
				words = append(words, fmt.Sprintf("%q=%q", key, value))
			}
			is(t, fmt.Sprintf("P15.4: %s during a loop, at %d", c.what, at), strings.Join(words, " "), before)
			is(t, fmt.Sprintf("P15.4: %s: another loop", c.what), listed(all), c.after)
			is(t, fmt.Sprintf("P15.4: %s: another iterator", c.what), listed(s.From(nil)), c.after)
		}
	}
}

// TestFromBegins: the state is that when the loop begins, not when the iterator was asked for.
func TestFromBegins(t *testing.T) {
	_, s := filled(t)
	all, some := s.From(nil), s.From([]byte("a"))
	is(t, "P15.4: an iterator from ahead of all", listed(all), "")
	s.Commit(batch(set("a", "1"), set("b", "2")))
	is(t, "P15.4: the same iterator", listed(all), `"a"="1" "b"="2"`)
	is(t, "P15.4: another one", listed(some), `"a"="1"`)
	s.Commit(batch(set("ab", "3"), drop("b")))
	is(t, "P15.4: the same iterator", listed(all), `"a"="1" "ab"="3"`)
	is(t, "P15.4: another one", listed(some), `"a"="1" "ab"="3"`)
	s.Compact()
	s.Commit(batch(drop("a"), drop("ab")))
	is(t, "P15.4: the same iterator", listed(all), "")
}

// TestFromLeft: a loop may be left at any place, and run again from the front.
func TestFromLeft(t *testing.T) {
	_, s := filled(t, batch(set("a", "1"), set("b", "2"), set("c", "3")))
	all := s.From(nil)
	for stop := range 4 {
		for range 3 {
			got := ""
			for key := range all {
				if len(got) == stop {
					break
				}
				got += key
			}
			is(t, fmt.Sprint("P15.4: a loop that is left at ", stop), got, "abc"[:stop])
		}
		is(t, "P15.4: the whole loop", listed(all), `"a"="1" "b"="2" "c"="3"`)
	}
	// What yields false is not asked again.
	calls := 0
	all(func(string, []byte) bool { calls++; return calls < 2 })
	if calls != 2 {
		t.Errorf("P15.4: a loop that is left at its second key got %d", calls)
	}
}

// TestFromNested: loops within one another, over the same iterator and over another one.
func TestFromNested(t *testing.T) {
	_, s := filled(t, batch(set("a", "1"), set("b", "2"), set("c", "3")))
	all := s.From(nil)
	got := ""
	for x := range all {
		for y, value := range all {
			got += x + y + string(value) + " "
			s.Commit(batch(set("b", x)))
		}
		for y := range s.From([]byte("b")) {
			got += y
			s.Commit(batch(drop("a")))
		}
	}
	is(t, "P15.4: loops within one another", got, "aa1 ab2 ac3 bbba bc3 bcbb cc3 b")
}

// TestFromBeside: two loops over one iterator, step by step beside each other.
func TestFromBeside(t *testing.T) {
	_, s := filled(t, batch(set("a", "1"), set("b", "2"), set("c", "3")))
	all := s.From(nil)
	one, stop := iter.Pull2(all)
	defer stop()
	take := func(next func() (string, []byte, bool)) string {
		key, value, there := next()
		return fmt.Sprintf("%s=%s %v", key, value, there)
	}
	is(t, "P15.4: one loop", take(one), "a=1 true")
	s.Commit(batch(set("b", "9"), drop("c"), set("d", "4")))
	two, halt := iter.Pull2(all)
	defer halt()
	for _, c := range []struct {
		next func() (string, []byte, bool)
		want string
	}{{two, "a=1 true"}, {one, "b=2 true"}, {two, "b=9 true"}, {one, "c=3 true"}, {two, "d=4 true"}, {one, "= false"}, {two, "= false"}} {
		is(t, "P15.4: two loops", take(c.next), c.want)
	}
}

// TestSize: after Open, Commit and Compact.
func TestSize(t *testing.T) {
	d := holding(three[0] + three[1] + "torn")
	s := opened(t, d)
	sizes := func(what string, want int) {
		t.Helper()
		if s.Size() != want {
			t.Errorf("P15.4: Size %s is %d, not %d", what, s.Size(), want)
		}
	}
	sizes("after Open, without the torn end", 37)
	s.Commit(nil)
	sizes("after Commit of nothing", 37)
	s.Commit(batch(set("a", "9")))
	sizes("after Commit", 55)
	s.Commit(batch(set("", "9")))
	sizes("after a Commit that was refused", 55)
	s.Commit(batch(drop("x")))
	sizes("after Commit of what changes nothing", 71)
	s.Compact()
	sizes("after Compact", 18+19)
	s.Commit(batch(drop("a")))
	sizes("after Compact and Commit", 37+16)
	s.Get([]byte("b"))
	listed(s.From(nil))
	sizes("after Get and From", 53)
	is(t, "P15.4: the file", fileOf(d), framed(set("a", "9"))+framed(set("b", "22"))+framed(drop("a")))
	s = opened(t, d)
	sizes("after Open of this file", 53)
	s.Compact()
	sizes("after Compact of this one", 19)
	d.Append(log, []byte("more"))
	sizes("of a file that was changed by others", 19)
	d.Arm(1)
	s.Commit(batch(set("c", "1")))
	sizes("after a Commit at which the disk died", 19)
	s.Compact()
	sizes("after a Compact on a dead disk", 19)
}
