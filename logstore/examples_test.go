package logstore_test

import (
	"testing"

	"tollhouse/api"
	"tollhouse/disk"
	"tollhouse/logstore"
)

// TestExamples goes through the chapter's table, line by line.
func TestExamples(t *testing.T) {
	if got := logstore.Sum([]byte("123456789")); got != 0xcbf43926 {
		t.Errorf("the chapter's examples: Sum = %x", got)
	}
	b, code := logstore.Frame(nil)
	if string(b) != "\x00\x00\x00\x01"+sums("\x00\x00\x00\x01")+"\x00"+sums("\x00") || len(b) != 13 || code != ok {
		t.Errorf("the chapter's examples: Frame(no changes) = %x, %d", b, code)
	}

	d := disk.New(much)
	s, code := logstore.Open(d, "log")
	commits := func(want api.Errno, l ...api.Change) {
		t.Helper()
		if got := s.Commit(l); got != want {
			t.Errorf("the chapter's examples: Commit(%s) = %d, not %d", spell(l), got, want)
		}
	}
	gets := func(key, want string, is bool) {
		t.Helper()
		if got, there := s.Get([]byte(key)); string(got) != want || there != is || !is && got != nil {
			t.Errorf("the chapter's examples: Get(%s) = %q, %v", key, got, there)
		}
	}
	sizes := func(want int) {
		t.Helper()
		if got := s.Size(); got != want {
			t.Errorf("the chapter's examples: Size = %d, not %d", got, want)
		}
	}
	if code != ok {
		t.Fatalf("the chapter's examples: Open = %d", code)
	}
	commits(ok)
	commits(ok, set("a", "1"))
	commits(ok, set("a", "2"), set("b", "3"))
	sizes(18 + 23)

	gets("a", "2", true)
	if s.Len() != 2 {
		t.Errorf("the chapter's examples: Len = %d", s.Len())
	}
	if code := s.Compact(); code != ok {
		t.Errorf("the chapter's examples: Compact = %d", code)
	}
	sizes(36)
	gets("a", "2", true)

	commits(badKey, set("", "1"))
	commits(ok, drop("a"), drop("c"))
	gets("a", "", false)

	whole := framed(set("a", "1")) + framed(set("a", "2"), set("b", "3"))
	e := holding(whole[:len(whole)-1])
	is(t, "the chapter's examples: a file that ends within a frame", tell(opened(t, e)), `"a"="1" size 18`)
	e = holding(whole)
	e.Flip(log, 30, 4)
	if s, code := logstore.Open(e, log); s != nil || code != spoilt {
		t.Errorf("the chapter's examples: a file with an inverted bit: %d", code)
	}
}

// TestNumbers: the errors and limits have the numbers that the chapter and package api give them.
func TestNumbers(t *testing.T) {
	for want, got := range map[api.Errno]api.Errno{badKey: api.ErrLogstoreKey, badValue: api.ErrLogstoreValue, tooMany: api.ErrLogstoreMany, spoilt: api.ErrLogstoreSpoilt, badName: api.ErrDiskName, isFull: api.ErrDiskFull, isNone: api.ErrDiskNone, isDead: api.ErrDiskDead, ok: api.OK} {
		if got != want {
			t.Errorf("an error of layer 15 is %d, not %d", got, want)
		}
	}
	for want, got := range map[int]int{maxKey: api.MaxLogKey, maxItem: api.MaxLogItem, maxBatch: api.MaxBatch, maxFrame: api.MaxFrame, maxFile: api.MaxFile} {
		if got != want {
			t.Errorf("a limit of layer 15 is %d, not %d", got, want)
		}
	}
}
