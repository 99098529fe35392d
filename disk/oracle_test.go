package disk_test

import (
	"math/rand"
	"slices"
	"testing"

	"tollhouse/api"
	"tollhouse/disk"
)

// few are calls of which short sequences already lead to all that can happen.
func few() []call {
	return []call{add("a", "01"), add("b", "0203"), add("b", ""), add("a", "040506"), syn("a"), syn("b"), cut("a", 1), cut("b", 0), ren("a", "b"), ren("b", "a"), ren("b", "b"), rem("a"), arm(0), arm(2), arm(-1), flip("a", 1, 3)}
}

// same does one call on the program's disk and on the tests' own one, and holds them against each other.
func same(t *testing.T, d *disk.Disk, m machine, c call, earlier []call) {
	t.Helper()
	got, want := c.do(real{d}), c.do(m)
	if got != want {
		t.Fatalf("P14.2: after %s: %s = %d, not %d", told(earlier), c.text, got, want)
	}
	if a, b := look(real{d}), look(m); a != b {
		t.Fatalf("P14.3: after %s %s: %s, not %s", told(earlier), c.text, a, b)
	}
}

// TestAllShort goes through all sequences of up to four calls.
func TestAllShort(t *testing.T) {
	keeps := [][]int{nil, {1}, {0, 1}, {9, 9}, {-1, 2, 1}}
	var walk func(d *disk.Disk, m machine, calls []call)
	walk = func(d *disk.Disk, m machine, calls []call) {
		for i, c := range few() {
			e, n := d.Clone(), m.clone()
			same(t, e, n, c, calls)
			keep := keeps[(i+len(calls))%len(keeps)]
			if a, b := look(real{e.Crash(keep)}), look(n.crash(keep)); a != b {
				t.Fatalf("P14.5: after %s %s: Crash(%d): %s, not %s", told(calls), c.text, keep, a, b)
			}
			if len(calls) < 3 {
				walk(e, n, append(slices.Clone(calls), c))
			}
		}
	}
	walk(disk.New(5), newModel(5), nil)
}

// odd is any call, sensible or not.
func odd(draw *rand.Rand) call {
	names := []string{"a", "b", "c", "d", "aa", "B", "", "a b", "~"}
	name := names[draw.Intn(len(names))]
	switch draw.Intn(12) {
	case 0:
		return flip(name, draw.Intn(9)-2, draw.Intn(11)-2)
	case 1:
		if draw.Intn(4) == 0 {
			return arm(draw.Intn(60) - 10)
		}
		return syn(name)
	case 2:
		return cut(name, draw.Intn(12)-2)
	}
	return drawn(draw)
}

// TestDrawn goes through long sequences of calls, among them crashes and clones that are gone on with.
func TestDrawn(t *testing.T) {
	draw := rand.New(rand.NewSource(140))
	for range 400 {
		room := draw.Intn(60) - 2
		d, m, calls := disk.New(room), machine(newModel(room)), []call(nil)
		for range 150 {
			c := odd(draw)
			same(t, d, m, c, calls)
			calls = append(calls, c)
			switch draw.Intn(25) {
			case 0:
				keep := drawnKeep(draw)
				d, m = d.Crash(keep), m.crash(keep)
			case 1:
				old, still := d, look(real{d})
				d, m = d.Clone(), m.clone()
				odd(draw).do(real{d.Clone()})
				if look(real{old}) != still {
					t.Fatalf("P14.6: after %s: a call on a clone changed the disk: %s, not %s", told(calls), look(real{old}), still)
				}
			}
			if d.Dead() && draw.Intn(4) == 0 {
				keep := drawnKeep(draw)
				d, m = d.Crash(keep), m.crash(keep)
			}
		}
	}
}

// TestDrawnTwice: the same calls answer the same (R6).
func TestDrawnTwice(t *testing.T) {
	run := func() (l []api.Errno, end string) {
		draw := rand.New(rand.NewSource(141))
		d := disk.New(50)
		for range 500 {
			l = append(l, odd(draw).do(real{d}))
			if d.Dead() {
				d = d.Crash(drawnKeep(draw))
			}
		}
		return l, look(real{d})
	}
	first, end := run()
	for range 5 {
		if again, last := run(); !slices.Equal(first, again) || last != end {
			t.Fatalf("R6: the same calls end with %s and with %s", end, last)
		}
	}
}
