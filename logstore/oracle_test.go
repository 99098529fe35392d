package logstore_test

import (
	"fmt"
	"math/rand"
	"slices"
	"strings"
	"testing"

	"tollhouse/api"
	"tollhouse/disk"
)

// world is a disk and a store on it, the program's or the tests' own.
type world struct {
	d    *disk.Disk
	s    keeper // nil where the last Open was refused
	open func(d *disk.Disk, name string) (keeper, api.Errno)
}

// call is something that is done to a world, with how it is told.
type call struct {
	text string
	do   func(w *world) api.Errno
}

func committing(l ...api.Change) call {
	return call{"Commit(" + spell(l) + ")", func(w *world) api.Errno { return w.s.Commit(l) }}
}

func compacting() call {
	return call{"Compact", func(w *world) api.Errno { return w.s.Compact() }}
}

// opening opens the file again: on the disk as it is.
func opening() call {
	return call{"Open", func(w *world) (code api.Errno) {
		w.s, code = w.open(w.d, log)
		return code
	}}
}

// crashing goes on with the disk that a crash leaves.
func crashing(keep ...int) call {
	return call{fmt.Sprintf("Crash(%d) Open", keep), func(w *world) (code api.Errno) {
		w.d = w.d.Crash(keep)
		w.s, code = w.open(w.d, log)
		return code
	}}
}

func arming(at int) call {
	return call{fmt.Sprintf("Arm(%d)", at), func(w *world) api.Errno { w.d.Arm(at); return ok }}
}

// behind writes to a file, as nobody but a store should.
func behind(name, b string) call {
	return call{fmt.Sprintf("Append(%s, %x)", name, b), func(w *world) api.Errno { return w.d.Append(name, []byte(b)) }}
}

func cutting(name string, n int) call {
	return call{fmt.Sprintf("Truncate(%s, %d)", name, n), func(w *world) api.Errno { return w.d.Truncate(name, n) }}
}

func removing(name string) call {
	return call{fmt.Sprintf("Remove(%s)", name), func(w *world) api.Errno { return w.d.Remove(name) }}
}

func flipping(name string, at, bit int) call {
	return call{fmt.Sprintf("Flip(%s, %d, %d)", name, at, bit), func(w *world) api.Errno {
		if w.d.Flip(name, at, bit) {
			return ok
		}
		return -1
	}}
}

// all tells all that can be seen of a world.
func (w *world) all() string {
	if w.s == nil {
		return "no store; " + look(w.d)
	}
	return tell(w.s) + "; " + listed(w.s.From([]byte("a"))) + "; " + look(w.d)
}

// pairOf are two worlds of one kind of disk, with the program's store and with the tests' own.
func pairOf(room int) [2]*world {
	return [2]*world{{d: disk.New(room), open: openReal}, {d: disk.New(room), open: openLedger}}
}

// same does one call in both worlds and holds them against each other; it tells what the call answered.
func same(t *testing.T, w [2]*world, c call, earlier []call) api.Errno {
	t.Helper()
	got, want := c.do(w[0]), c.do(w[1])
	if got != want {
		t.Fatalf("P15: after %s: %s = %d, not %d", spoken(earlier), c.text, got, want)
	}
	if a, b := w[0].all(), w[1].all(); a != b {
		t.Fatalf("P15: after %s %s: %s, not %s", spoken(earlier), c.text, a, b)
	}
	return got
}

func spoken(calls []call) string {
	var l []string
	for _, c := range calls {
		l = append(l, c.text)
	}
	return strings.Join(l, " ")
}

// few are calls of which short sequences already lead to all that can happen.
func few() []call {
	return []call{committing(set("a", "1")), committing(set("b", "22"), drop("a")), committing(), committing(set("", "1")), compacting(), opening(), crashing(), crashing(9, 9), crashing(100, 100), arming(0), arming(1), arming(-1), behind(log, "torn"), behind(fresh, "junk"), flipping(log, 3, 1), removing(log)}
}

// TestAllShort goes through all sequences of up to four calls.
func TestAllShort(t *testing.T) {
	var walk func(calls []call)
	walk = func(calls []call) {
		for _, c := range few() {
			w := pairOf(70)
			same(t, w, opening(), nil)
			for _, earlier := range calls {
				earlier.do(w[0])
				earlier.do(w[1])
			}
			if w[0].s == nil {
				return
			}
			same(t, w, c, calls)
			if len(calls) < 3 {
				walk(append(slices.Clone(calls), c))
			}
		}
	}
	walk(nil)
}

// odd is a batch that Frame may refuse.
func odd(draw *rand.Rand) []api.Change {
	keys := []string{"a", "b", "ab", "abc", "\x00", "\xff", "A", strings.Repeat("a", maxKey)}
	var l []api.Change
	for range draw.Intn(5) {
		key := keys[draw.Intn(len(keys))]
		if draw.Intn(60) == 0 {
			key = []string{"", strings.Repeat("k", maxKey+1)}[draw.Intn(2)]
		}
		c := api.Change{Key: []byte(key), Drop: draw.Intn(3) == 0}
		switch draw.Intn(12) {
		case 0:
		case 1:
			c.Value = drawnBytes(draw, 250+draw.Intn(6))
		default:
			c.Value = drawnBytes(draw, draw.Intn(6))
		}
		l = append(l, c)
	}
	return l
}

// anything is any call, sensible or not.
func anything(draw *rand.Rand) call {
	switch draw.Intn(20) {
	case 0, 1:
		return compacting()
	case 2, 3:
		return opening()
	case 4:
		return crashing(draw.Intn(300)-5, draw.Intn(300)-5)
	case 5:
		return arming(draw.Intn(12) - 2)
	case 6:
		b := framed(odd(draw)...)
		return behind(log, b[:draw.Intn(len(b)+1)])
	case 7:
		return behind([]string{log, fresh, "other"}[draw.Intn(3)], string(drawnBytes(draw, draw.Intn(12))))
	case 8:
		switch draw.Intn(8) {
		case 0:
			return removing(log)
		case 1:
			return removing(fresh)
		case 2:
			return flipping(log, draw.Intn(300), draw.Intn(8))
		case 3:
			return cutting(log, draw.Intn(100))
		case 4:
			return behind(log, around(string(drawnBytes(draw, draw.Intn(4)))))
		}
	}
	return committing(odd(draw)...)
}

// TestDrawn goes through long sequences of calls.
func TestDrawn(t *testing.T) {
	draw := rand.New(rand.NewSource(1590))
	answers := map[api.Errno]int{}
	for range 400 {
		w := pairOf(draw.Intn(3000))
		calls := []call{opening()}
		answers[same(t, w, opening(), nil)]++
		for range 120 {
			c := anything(draw)
			switch {
			case w[0].s == nil && w[0].d.Dead():
				c = crashing(draw.Intn(300), draw.Intn(300))
			case w[0].s == nil:
				// Nobody mends a spoilt file: it begins anew.
				c = []call{removing(log), cutting(log, 0)}[draw.Intn(2)]
				answers[same(t, w, c, calls)]++
				calls = append(calls, c)
				c = opening()
			}
			answers[same(t, w, c, calls)]++
			calls = append(calls, c)
		}
	}
	for _, code := range []api.Errno{ok, isFull, isDead, badKey, spoilt} {
		if answers[code] < 50 {
			t.Errorf("the test's calls answer %d only %d times", code, answers[code])
		}
	}
}

// TestTwice: the same calls answer the same (R6), whatever order a map is gone through in.
func TestTwice(t *testing.T) {
	run := func() string {
		draw := rand.New(rand.NewSource(1591))
		w := pairOf(100000)[0]
		end := fmt.Sprint(opening().do(w))
		for range 300 {
			end += fmt.Sprint(committing(drawnBatch(draw, 6)...).do(w))
			if draw.Intn(20) == 0 {
				end += fmt.Sprint(compacting().do(w))
			}
		}
		b, _ := w.d.Read(log)
		return end + string(b) + w.all()
	}
	first := run()
	for range 5 {
		if run() != first {
			t.Fatal("R6: the same calls end with something else")
		}
	}
}
