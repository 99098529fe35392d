package logstore_test

import (
	"bytes"
	"fmt"
	"slices"
	"testing"
	"unsafe"

	"tollhouse/api"
	"tollhouse/logstore"
)

// spoil writes over all that a result has, and over what stands behind its end.
func spoil(b []byte) {
	b = b[:cap(b)]
	for i := range b {
		b[i] ^= 0xa5
	}
}

// roomy is a text in the middle of a greater piece of memory, and all of that.
func roomy(text string) (b, all []byte) {
	all = append([]byte("before"), text...)
	all = append(all, "behind"...)
	return all[6 : 6+len(text)], all
}

// TestArgumentsStay: what is handed in isn't changed, nor what stands behind its end (R5).
func TestArgumentsStay(t *testing.T) {
	d, s := filled(t, batch(set("key", "old")))
	for _, room := range []bool{true, false} {
		key, keys := roomy("key")
		value, values := roomy("value")
		other, others := roomy("other")
		list := make([]api.Change, 5)
		list[0], list[1] = api.Change{Key: key, Value: value}, api.Change{Key: other, Value: value, Drop: true}
		list[2] = set("behind", "the end")
		l := list[:2]
		if !room {
			l = list[:2:2]
		}
		still := [][]byte{bytes.Clone(keys), bytes.Clone(values), bytes.Clone(others)}
		logstore.Sum(key)
		logstore.Frame(l)
		s.Commit(l)
		s.Get(key)
		listed(s.From(key))
		s.Compact()
		s.Commit(l)
		for i, b := range [][]byte{keys, values, others} {
			if !bytes.Equal(b, still[i]) {
				t.Errorf("R5: what was handed in is %q, not %q", b, still[i])
			}
		}
		if len(list[2].Key) != 6 || list[2].Drop || list[3].Key != nil || list[4].Value != nil || &list[0].Key[0] != &key[0] || !list[1].Drop || string(list[1].Value) != "value" {
			t.Errorf("R5: the list that was handed in is %v", list)
		}
	}
	twice(t, "R5", s, d, tell(s))
}

// TestCommitKeepsNothing: what was committed may be changed afterwards.
func TestCommitKeepsNothing(t *testing.T) {
	d, s := filled(t)
	key, value := []byte("key"), []byte("value")
	l := batch(api.Change{Key: key, Value: value}, api.Change{Key: []byte("same"), Value: value}, set("old", ""))
	s.Commit(l)
	spoil(key)
	spoil(value)
	l[2] = drop("key")
	twice(t, "R5: after what was committed was changed", s, d, fmt.Sprintf(`"key"="value" "old"="" "same"="value" size %d`, s.Size()))
	// The same memory again, with another value in it.
	copy(value, "other")
	copy(key, "yek")
	s.Commit(l[:1])
	copy(value, "third")
	copy(key, "zzz")
	twice(t, "R5: after it was changed once more", s, d, fmt.Sprintf(`"key"="value" "old"="" "same"="value" "yek"="other" size %d`, s.Size()))
	s.Compact()
	twice(t, "R5: after a Compact", s, d, fmt.Sprintf(`"key"="value" "old"="" "same"="value" "yek"="other" size %d`, s.Size()))
}

// TestResultsAreNew: what was told may be changed, and nothing else changes by it.
func TestResultsAreNew(t *testing.T) {
	d, first := filled(t, batch(set("a", "12345"), set("ab", "6"), set("b", "")), batch(set("c", "789"), set("d", "12345")))
	for i, s := range []*logstore.Store{first, opened(t, d)} {
		want := tell(s)
		one, _ := s.Get([]byte("a"))
		two, _ := s.Get([]byte("a"))
		spoil(one)
		if string(two) != "12345" {
			t.Errorf("R5: store %d: another Get has %q now", i, two)
		}
		is(t, "R5: after what Get told was changed", tell(s), want)
		spoil(two)
		var told, copies [][]byte
		for range 2 {
			for _, value := range s.From(nil) {
				spoil(value)
				for j, b := range told {
					if !bytes.Equal(b, copies[j]) {
						t.Fatalf("R5: store %d: value %d, which was yielded earlier, is %q now, not %q", i, j, b, copies[j])
					}
				}
				told, copies = append(told, value), append(copies, bytes.Clone(value))
			}
		}
		is(t, "R5: after what was yielded was changed", tell(s), want)
		twice(t, "R5: after what was told was changed", s, d, want)
		empty, _ := s.Get([]byte("b"))
		_ = append(empty, "more"...)
		again, _ := s.Get([]byte("b"))
		if len(again) != 0 {
			t.Errorf("R5: store %d: an empty value is %q now", i, again)
		}
	}
}

// TestFrameIsNew: neither frames nor what they were made of share memory.
func TestFrameIsNew(t *testing.T) {
	for _, l := range [][]api.Change{nil, batch(set("a", "1")), batch(set("a", "1"), drop("b"))} {
		one, _ := logstore.Frame(l)
		two, _ := logstore.Frame(l)
		spoil(one)
		three, _ := logstore.Frame(l)
		if want := framed(l...); string(two) != want || string(three) != want {
			t.Errorf("R5: Frame(%s) = %x and %x after another one was changed", spell(l), two, three)
		}
	}
}

// TestLoopBeganEarlier: a value that is changed by whoever was told it is not changed in a loop that runs.
func TestLoopBeganEarlier(t *testing.T) {
	_, s := filled(t, batch(set("a", "1"), set("b", "2"), set("c", "3")))
	got := ""
	for key, value := range s.From(nil) {
		got += key + string(value)
		spoil(value)
		for _, other := range []string{"a", "b", "c"} {
			b, _ := s.Get([]byte(other))
			spoil(b)
		}
	}
	is(t, "R5: a loop during which results are changed", got, "a1b2c3")
}

// TestFromKeepsNoPrefix: the prefix may be changed after From.
func TestFromKeepsNoPrefix(t *testing.T) {
	_, s := filled(t, batch(set("a", "1"), set("b", "2")))
	prefix := []byte("a")
	some := s.From(prefix)
	prefix[0] = 'b'
	is(t, "R5: From with a prefix that was changed", listed(some), `"a"="1"`)
	for key := range some {
		prefix[0] = 'c'
		is(t, "R5: a key of that loop", key, "a")
	}
}

// TestNameKept: the file's name is kept by its bytes, not by the memory in which the caller has them.
func TestNameKept(t *testing.T) {
	d, _ := filled(t)
	b := []byte("other")
	s, code := logstore.Open(d, unsafe.String(&b[0], len(b)))
	if code != ok {
		t.Fatalf("P15.2: Open = %d", code)
	}
	copy(b, "moved")
	s.Commit(batch(set("a", "1")))
	s.Compact()
	if !slices.Equal(d.Names(), []string{"log", "other"}) {
		t.Errorf("R5: the files are %q", d.Names())
	}
}

// TestDiskApart: what is changed in the file behind the store's back doesn't change what it tells.
func TestDiskApart(t *testing.T) {
	d, first := filled(t, batch(set("a", "12345")))
	for i, s := range []*logstore.Store{first, opened(t, d)} {
		for at := range len(fileOf(d)) {
			d.Flip(log, at, 3)
		}
		if value, _ := s.Get([]byte("a")); string(value) != "12345" {
			t.Errorf("P15.4: store %d: Get = %q after the file was changed", i, value)
		}
		for at := range len(fileOf(d)) {
			d.Flip(log, at, 3)
		}
	}
}
