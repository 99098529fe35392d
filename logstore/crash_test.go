package logstore_test

import (
	"fmt"
	"math/rand"
	"strings"
	"testing"

	"tollhouse/api"
	"tollhouse/disk"
	"tollhouse/logstore"
)

// deed is something that is done to a store: a Commit, or (compact) a Compact, or (again) it is opened once more.
type deed struct {
	commit         []api.Change
	compact, again bool
}

func (x deed) text() string {
	switch {
	case x.compact:
		return "Compact"
	case x.again:
		return "Open"
	}
	return "Commit(" + spell(x.commit) + ")"
}

// lost tells of how many bytes each file may have a part in a crash, by ascending names.
func lost(d *disk.Disk) []int {
	found := d.Crash(nil)
	var l []int
	for _, name := range d.Names() {
		all, _ := d.Read(name)
		lasts, _ := found.Read(name)
		l = append(l, len(all)-len(lasts))
	}
	return l
}

// keeps are all ways in which a disk may be found: for each file, each number of the bytes that may be lost (of many bytes, those about the edges).
func keeps(d *disk.Disk) [][]int {
	all := [][]int{nil}
	for _, n := range lost(d) {
		var longer [][]int
		for _, keep := range all {
			for k := range n + 1 {
				if k <= 16 || k >= n-16 || k%37 == 0 {
					longer = append(longer, append(append([]int(nil), keep...), k))
				}
			}
		}
		all = longer
	}
	return all
}

// contents tell what a store has, but not its size.
func contents(s *logstore.Store) string { return listed(s.From(nil)) }

// with is what a store's contents are behind changes.
func with(s *logstore.Store, l []api.Change) string {
	g := &ledger{}
	for key, value := range s.From(nil) {
		g.change(batch(set(key, string(value))))
	}
	g.change(l)
	return listed(g.From(nil))
}

// found opens a disk that was found, and again on each disk that is found if it fails while that is done; so many times in one another.
func found(t *testing.T, what string, d *disk.Disk, wants []string, times int) {
	t.Helper()
	e := d.Clone()
	s, code := logstore.Open(e, log)
	if code != ok {
		t.Fatalf("P15.6: %s: Open = %d on %s", what, code, look(d))
	}
	if got := contents(s); got != wants[0] && got != wants[1] {
		t.Fatalf("P15.6: %s: %s, neither %s nor %s", what, got, wants[0], wants[1])
	}
	if file := fileOf(e); s.Size() != len(file) || lost(e)[0] != 0 || len(e.Names()) != 1 {
		t.Fatalf("P15.6: %s: the store has size %d, the disk is %s", what, s.Size(), look(e))
	}
	if code := s.Commit(batch(set("more", "0"))); code != ok || contents(opened(t, e.Crash(nil))) != contents(s) {
		t.Fatalf("P15.6: %s: one more Commit: %d", what, code)
	}
	if times == 0 {
		return
	}
	for at := 0; ; at++ {
		f := d.Clone()
		f.Arm(at)
		s, code := logstore.Open(f, log)
		if code == ok {
			return
		}
		if code != isDead || s != nil {
			t.Fatalf("P15.6: %s: Open = %d on a disk that dies at step %d", what, code, at)
		}
		for _, keep := range keeps(f) {
			found(t, fmt.Sprintf("%s, and while it was opened, at %d, with %d", what, at, keep), f.Crash(keep), wants, times-1)
		}
	}
}

// crashes does deeds on a disk that fails at each step in turn, and looks at what is found then.
func crashes(t *testing.T, before *disk.Disk, deeds ...deed) {
	t.Helper()
	for at := 0; ; at++ {
		d := before.Clone()
		d.Arm(at)
		acknowledged, pending, what := "", "", fmt.Sprintf("step %d", at)
		if s, code := logstore.Open(before.Clone(), log); code == ok {
			acknowledged = contents(s)
			pending = acknowledged
		}
		s, code := logstore.Open(d, log)
		for _, x := range deeds {
			if code != ok {
				break
			}
			what += " of " + x.text()
			acknowledged, pending = contents(s), contents(s)
			switch {
			case x.compact:
				code = s.Compact()
			case x.again:
				_, code = logstore.Open(d, log)
			default:
				pending = with(s, x.commit)
				code = s.Commit(x.commit)
			}
			if code == ok {
				acknowledged = contents(s)
				if acknowledged != pending {
					t.Fatalf("P15.3: %s: %s, not %s", what, acknowledged, pending)
				}
			}
		}
		if code != ok && code != isDead {
			t.Fatalf("P15.6: %s: %d", what, code)
		}
		if code == isDead && s != nil && contents(s) != acknowledged {
			t.Fatalf("P15.6: %s: the store has %s, not %s", what, contents(s), acknowledged)
		}
		for _, keep := range keeps(d) {
			whole := fmt.Sprintf("%s, with %d", what, keep)
			found(t, whole, d.Crash(keep), []string{acknowledged, pending}, 2)
		}
		if code == ok {
			return
		}
	}
}

// TestCrashCommits: behind each step of Commits.
func TestCrashCommits(t *testing.T) {
	for _, deeds := range [][]deed{
		{},
		{{commit: batch(set("a", "1"))}},
		{{commit: batch(drop("a"))}},
		{{commit: batch(set("a", "1"))}, {commit: batch(set("a", "2"), set("b", "3"))}, {commit: batch(drop("a"), set("c", ""))}},
		{{commit: batch(set("a", "1"), set("b", "2"), drop("a"))}, {commit: nil}, {commit: batch(drop("b"), set("b", "9"))}, {again: true}, {commit: batch(drop("b"))}},
		{{commit: batch(set(strings.Repeat("k", maxKey), strings.Repeat("v", 253)))}, {commit: batch(set("a", strings.Repeat("\x00", 40)))}},
	} {
		crashes(t, disk.New(much), deeds...)
	}
}

// TestCrashCompacts: behind each step of a Compact, with Commits about it.
func TestCrashCompacts(t *testing.T) {
	for _, deeds := range [][]deed{
		{{compact: true}},
		{{commit: batch(set("a", "1"))}, {compact: true}},
		{{commit: batch(set("a", "1"), set("b", "2"))}, {commit: batch(set("a", "3"))}, {compact: true}, {commit: batch(drop("b"))}},
		{{commit: batch(set("a", "1"))}, {commit: batch(drop("a"))}, {compact: true}, {commit: batch(set("b", "2"))}, {compact: true}, {again: true}, {commit: batch(set("c", "3"))}},
	} {
		crashes(t, disk.New(much), deeds...)
	}
}

// TestCrashOpens: behind each step of an Open, of files of all kinds.
func TestCrashOpens(t *testing.T) {
	whole := strings.Join(three, "")
	for _, file := range []string{"", whole, whole[:40], whole + "torn", whole + headOf(1000) + "torn", "torn"} {
		for _, rest := range []string{"-", "", "junk", three[0]} {
			d := holding(file)
			if rest != "-" {
				d.Append(fresh, []byte(rest))
			}
			crashes(t, d, deed{commit: batch(set("a", "7"), drop("b"))}, deed{compact: true}, deed{again: true})
		}
	}
	// Only a Compact's file is there.
	d := disk.New(much)
	d.Append(fresh, []byte(three[0]))
	crashes(t, d, deed{commit: batch(set("a", "7"))})
}

// TestCrashAllOrNothing: of a batch that wasn't acknowledged all is found where all its bytes are, and else nothing.
func TestCrashAllOrNothing(t *testing.T) {
	l := batch(set("b", "2"), drop("a"), set("c", strings.Repeat("3", 260)), set("b", "4"))
	for at := range 2 {
		d, s := filled(t, batch(set("a", "1")))
		before, after := contents(s), with(s, l)
		d.Arm(at)
		if code := s.Commit(l); code != isDead {
			t.Fatalf("P15.3: Commit = %d", code)
		}
		size := len(framed(l...))
		if got := lost(d)[0]; got != size {
			t.Fatalf("P15.3: %d bytes may be lost, not %d", got, size)
		}
		for keep := range size + 1 {
			want := before
			if keep == size {
				want = after
			}
			is(t, fmt.Sprintf("P15.6: %d of %d bytes", keep, size), contents(opened(t, d.Crash([]int{keep}))), want)
		}
	}
}

// opens opens a disk that fails now and then while that is done.
func opens(t *testing.T, draw *rand.Rand, d *disk.Disk) (*disk.Disk, *logstore.Store) {
	t.Helper()
	for {
		if draw.Intn(2) == 0 {
			d.Arm(draw.Intn(4))
		}
		s, code := logstore.Open(d, log)
		if code == ok {
			return d, s
		}
		if code != isDead {
			t.Fatalf("P15.6: Open = %d on %s", code, look(d))
		}
		d = d.Crash([]int{draw.Intn(40), draw.Intn(40)})
	}
}

// TestCrashDrawn: long lives with many crashes; nothing that was acknowledged is ever lost.
func TestCrashDrawn(t *testing.T) {
	draw := rand.New(rand.NewSource(1560))
	for range 60 {
		d, s := opens(t, draw, disk.New(5000))
		refused := 0
		for range 150 {
			if draw.Intn(6) == 0 {
				d.Arm(draw.Intn(10))
			}
			l := drawnBatch(draw, 4)
			acknowledged, pending := contents(s), with(s, l)
			code := api.OK
			if draw.Intn(8) == 0 {
				pending = acknowledged
				code = s.Compact()
			} else {
				code = s.Commit(l)
			}
			switch code {
			case ok:
				is(t, "P15.3: after what is acknowledged", contents(s), pending)
			case isFull:
				refused++
				is(t, "P15.3: after what is refused", contents(s), acknowledged)
				if refused > 5 {
					d = disk.New(5000 + 300*refused)
					d, s = opens(t, draw, d)
				}
			case isDead:
				d = d.Crash([]int{draw.Intn(400), draw.Intn(400)})
				d, s = opens(t, draw, d)
				if got := contents(s); got != acknowledged && got != pending {
					t.Fatalf("P15.6: after a crash: %s, neither %s nor %s", got, acknowledged, pending)
				}
			default:
				t.Fatalf("P15.6: %d on %s", code, look(d))
			}
		}
	}
}
