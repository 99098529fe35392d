package disk_test

import (
	"bytes"
	"math/rand"
	"reflect"
	"slices"
	"testing"

	"tollhouse/disk"
)

// TestTold goes through calls one by one, with what Read, Names, Free, Steps and Dead tell then.
func TestTold(t *testing.T) {
	d := disk.New(10)
	for _, c := range []struct {
		call        call
		names       []string
		a, b        []byte
		free, steps int
		dead        bool
	}{
		{syn("a"), nil, nil, nil, 10, 0, false},
		{add("b", "01 02"), texts("b"), nil, octets(1, 2), 8, 1, false},
		{add("a", ""), texts("a", "b"), octets(), octets(1, 2), 8, 2, false},
		{add("a", "03 04 05"), texts("a", "b"), octets(3, 4, 5), octets(1, 2), 5, 3, false},
		{add("", "03"), texts("a", "b"), octets(3, 4, 5), octets(1, 2), 5, 3, false},
		{add("b", "00 00 00 00 00 00"), texts("a", "b"), octets(3, 4, 5), octets(1, 2), 5, 3, false},
		{syn("a"), texts("a", "b"), octets(3, 4, 5), octets(1, 2), 5, 4, false},
		{cut("a", 4), texts("a", "b"), octets(3, 4, 5), octets(1, 2), 5, 4, false},
		{cut("b", 1), texts("a", "b"), octets(3, 4, 5), octets(1), 6, 5, false},
		{flip("a", 1, 7), texts("a", "b"), octets(3, 132, 5), octets(1), 6, 5, false},
		{ren("a", "z"), texts("b", "z"), nil, octets(1), 6, 6, false},
		{ren("b", "a"), texts("a", "z"), octets(1), nil, 6, 7, false},
		{ren("z", "b"), texts("a", "b"), octets(1), octets(3, 132, 5), 6, 8, false},
		{ren("b", "b"), texts("a", "b"), octets(1), octets(3, 132, 5), 6, 9, false},
		{add("z", "07"), texts("a", "b", "z"), octets(1), octets(3, 132, 5), 5, 10, false},
		{ren("z", "a"), texts("a", "b"), octets(7), octets(3, 132, 5), 6, 11, false},
		{rem("b"), texts("a"), octets(7), nil, 9, 12, false},
		{rem("b"), texts("a"), octets(7), nil, 9, 12, false},
		{add("b", "08"), texts("a", "b"), octets(7), octets(8), 8, 13, false},
		{arm(1), texts("a", "b"), octets(7), octets(8), 8, 13, false},
		{cut("b", 0), texts("a", "b"), octets(7), octets(), 9, 14, false},
		{cut("b", 1), texts("a", "b"), octets(7), octets(), 9, 14, false},
		{add("b", "09 0a"), texts("a", "b"), octets(7), octets(9, 10), 7, 15, true},
		{add("b", "0b"), texts("a", "b"), octets(7), octets(9, 10), 7, 15, true},
		{rem("a"), texts("a", "b"), octets(7), octets(9, 10), 7, 15, true},
		{arm(-1), texts("a", "b"), octets(7), octets(9, 10), 7, 15, true},
		{flip("b", 0, 0), texts("a", "b"), octets(7), octets(8, 10), 7, 15, true},
	} {
		c.call.do(real{d})
		a, hasA := d.Read("a")
		b, hasB := d.Read("b")
		if hasA != slices.Contains(c.names, "a") || hasB != slices.Contains(c.names, "b") || !bytes.Equal(a, c.a) || !bytes.Equal(b, c.b) {
			t.Errorf("P14.3: after %s Read tells %x %v and %x %v", c.call.text, a, hasA, b, hasB)
		}
		if !slices.Equal(d.Names(), c.names) || d.Free() != c.free || d.Steps() != c.steps || d.Dead() != c.dead {
			t.Errorf("P14.3: after %s: names %q, free %d, steps %d, dead %v", c.call.text, d.Names(), d.Free(), d.Steps(), d.Dead())
		}
	}
}

func texts(l ...string) []string { return l }

func octets(l ...byte) []byte { return l }

// TestReadNothing: where there is no file there are no bytes, and a file without bytes is a file.
func TestReadNothing(t *testing.T) {
	for _, d := range []*disk.Disk{disk.New(10), after(10, add("b", "01")), after(10, add("a", "01"), rem("a")), after(10, add("a", "01"), ren("a", "b")), after(10, add("b", "01"), arm(0), ren("b", "a"))} {
		for _, name := range []string{"a", "", "B", "bb", " ", "\xff", "b\x00"} {
			if b, there := d.Read(name); b != nil || there {
				t.Errorf("P14.3: Read(%q) = %x, %v", name, b, there)
			}
		}
	}
	for _, d := range []*disk.Disk{after(0, add("a", "")), after(10, add("a", "01"), cut("a", 0)), after(10, add("a", "01")).Crash(nil)} {
		if b, there := d.Read("a"); len(b) != 0 || !there {
			t.Errorf("P14.3: Read of a file without bytes: %x, %v", b, there)
		}
	}
}

// TestReadCopies: what is done with what Read returned changes nothing, neither on the disk nor in what Read returned before.
func TestReadCopies(t *testing.T) {
	for _, d := range []*disk.Disk{after(10, some()...), after(10, some(arm(0), syn("a"))...), after(10, some(cut("a", 3), add("a", "0405"))...)} {
		first, _ := d.Read("a")
		second, _ := d.Read("a")
		before := look(real{d})
		scratch(first)
		if !bytes.Equal(second, []byte{1, 2, 3, 4, 5}) {
			t.Errorf("P14.3: two results of Read share memory: %x", second)
		}
		sees(t, "P14.3", d, before)
		d.Append("a", []byte{6})
		d.Flip("a", 0, 0)
		if !bytes.Equal(second, []byte{1, 2, 3, 4, 5}) {
			t.Errorf("P14.3: a result of Read was changed by later calls: %x", second)
		}
	}
}

// scratch spoils all of a slice's memory, behind its end as well.
func scratch(b []byte) {
	for i := range b[:cap(b)] {
		b[:cap(b)][i] ^= 0xa5
	}
}

// TestNamesCopies: a list of names belongs to its caller.
func TestNamesCopies(t *testing.T) {
	d := after(10, some()...)
	first, second := d.Names(), d.Names()
	for i := range first[:cap(first)] {
		first[:cap(first)][i] = "q"
	}
	if want := []string{"a", "b", "c"}; !reflect.DeepEqual(second, want) || !reflect.DeepEqual(d.Names(), want) {
		t.Errorf("P14.3: lists of names share memory: %q, %q", second, d.Names())
	}
	d.Rename("a", "d")
	if want := []string{"a", "b", "c"}; !reflect.DeepEqual(second, want) {
		t.Errorf("P14.3: a list of names was changed by a later call: %q", second)
	}
}

// TestNamesOrder: names are told in the order of their bytes, in whatever order the files came to be.
func TestNamesOrder(t *testing.T) {
	sorted := []string{"!", "!!", "!~", "0", "00", "1", "10", "2", "9", "A", "AA", "Ab", "Z", "a", "a!", "aA", "aa", "aaa", "ab", "b", "log", "log.new", "log2", "z", "zz", "~", "~!", "~~"}
	draw := rand.New(rand.NewSource(14))
	for range 60 {
		d := disk.New(100)
		for _, i := range draw.Perm(len(sorted)) {
			d.Append(sorted[i], []byte{byte(i)})
		}
		for range 3 {
			if got := d.Names(); !slices.Equal(got, sorted) {
				t.Fatalf("P14.3: Names = %q", got)
			}
		}
		e := d.Crash(nil)
		if got := e.Names(); !slices.Equal(got, sorted) {
			t.Fatalf("P14.3: Names after a crash = %q", got)
		}
		if got := d.Clone().Names(); !slices.Equal(got, sorted) {
			t.Fatalf("P14.3: Names of a clone = %q", got)
		}
	}
}
