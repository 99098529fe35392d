package disk_test

import (
	"bytes"
	"math"
	"testing"

	"tollhouse/disk"
)

// TestFlip inverts each bit of each byte, once and again, on disks in every state.
func TestFlip(t *testing.T) {
	bits := []byte{1, 2, 4, 8, 16, 32, 64, 128}
	for _, calls := range [][]call{some(), some(arm(0)), some(arm(3)), some(arm(0), syn("a")), some(arm(0), add("a", ""))} {
		d := after(10, calls...)
		before := look(real{d})
		for _, name := range []string{"a", "b"} {
			whole, _ := d.Read(name)
			for at := range whole {
				for bit, value := range bits {
					if !d.Flip(name, at, bit) {
						t.Fatalf("P14.6: Flip(%s, %d, %d) is false", name, at, bit)
					}
					want := bytes.Clone(whole)
					want[at] ^= value
					if got, _ := d.Read(name); !bytes.Equal(got, want) {
						t.Errorf("P14.6: Flip(%s, %d, %d): %x, not %x", name, at, bit, got, want)
					}
					if !d.Flip(name, at, bit) {
						t.Fatalf("P14.6: Flip(%s, %d, %d) is false the second time", name, at, bit)
					}
					sees(t, "P14.6", d, before, flip(name, at, bit), flip(name, at, bit))
				}
			}
		}
	}
}

// TestFlipped: it is not a step, and what lasts goes on lasting.
func TestFlipped(t *testing.T) {
	for _, c := range []struct {
		calls []call
		want  string
	}{
		{some(flip("a", 0, 0)), "a:000203|0405 b:|06 c:| free 4, steps 5"},
		{some(flip("a", 2, 7)), "a:010283|0405 b:|06 c:| free 4, steps 5"},
		{some(flip("a", 3, 3)), "a:010203|0c05 b:|06 c:| free 4, steps 5"},
		{some(flip("a", 4, 1)), "a:010203|0407 b:|06 c:| free 4, steps 5"},
		{some(flip("a", 0, 0), flip("a", 4, 0)), "a:000203|0404 b:|06 c:| free 4, steps 5"},
		{some(arm(0), flip("b", 0, 6)), "a:010203|0405 b:|46 c:| free 4, steps 5, fails at 0"},
		{some(arm(2), flip("b", 0, 6)), "a:010203|0405 b:|46 c:| free 4, steps 5, fails at 2"},
		{some(arm(0), syn("a"), flip("a", 1, 5)), "a:012203|0405 b:|06 c:| free 4, steps 6, dead"},
		{some(arm(0), syn("a"), flip("a", 3, 5)), "a:010203|2405 b:|06 c:| free 4, steps 6, dead"},
		{some(flip("a", 3, 5), syn("a")), "a:0102032405| b:|06 c:| free 4, steps 6"},
		{some(cut("a", 4), flip("a", 3, 5)), "a:010203|24 b:|06 c:| free 5, steps 6"},
	} {
		sees(t, "P14.6", after(10, c.calls...), c.want, c.calls...)
	}
	d := after(10, some(arm(0), syn("a"), flip("a", 1, 5), flip("a", 3, 4))...)
	sees(t, "P14.6", d.Crash([]int{1}), "a:01220314| b:| c:| free 6, steps 0")
	e := d.Crash([]int{1})
	e.Flip("a", 3, 4)
	sees(t, "P14.6", e, "a:01220304| b:| c:| free 6, steps 0")
}

func TestFlipNothing(t *testing.T) {
	wrong := []call{
		flip("d", 0, 0), flip("", 0, 0), flip("A", 0, 0), flip("a\x00", 0, 0), flip("d", -1, 0), flip("d", 0, 8),
		flip("a", -1, 0), flip("a", -1, 7), flip("a", 5, 0), flip("a", 5, 7), flip("a", 6, 0), flip("b", 1, 0), flip("b", -1, 0), flip("c", 0, 0), flip("c", -1, 0), flip("c", 1, 0),
		flip("a", 0, -1), flip("a", 0, 8), flip("a", 0, 9), flip("a", 4, 8), flip("a", 4, -1), flip("b", 0, 8), flip("a", 0, 64), flip("a", 0, 256), flip("a", 0, -8), flip("a", 5, 8), flip("a", -1, -1), flip("c", 0, -1),
	}
	for _, n := range far {
		wrong = append(wrong, flip("a", n, 0), flip("a", 0, n), flip("a", n, n), flip("c", n, 0), flip("d", n, n))
	}
	for _, calls := range [][]call{some(), some(arm(1)), some(arm(0), syn("a")), some(cut("a", 5)), some(add("a", "0708"), cut("a", 5))} {
		d := after(10, calls...)
		before := look(real{d})
		for _, c := range wrong {
			if c.do(real{d}) == ok {
				t.Errorf("P14.6: after %s: %s is true", told(calls), c.text)
			}
			sees(t, "P14.6", d, before, c)
		}
	}
	if disk.New(10).Flip("a", 0, 0) {
		t.Error("P14.6: a bit of a disk without files is inverted")
	}
}

func TestClone(t *testing.T) {
	for _, calls := range [][]call{nil, some(), some(arm(0)), some(arm(4)), some(arm(-1)), some(arm(math.MaxInt)), some(arm(2), syn("a")), some(arm(0), syn("a")), some(arm(0), add("d", "0708")), some(cut("a", 2), rem("b"))} {
		d := after(10, calls...)
		c := d.Clone()
		before := look(real{d})
		sees(t, "P14.6", c, before, calls...)
		sees(t, "P14.6", c.Clone(), before, calls...)
		if c.Free() != d.Free() || c.Steps() != d.Steps() || c.Dead() != d.Dead() {
			t.Errorf("P14.6: after %s: a clone has %d free, %d steps, dead %v", told(calls), c.Free(), c.Steps(), c.Dead())
		}
		sees(t, "P14.6", c.Crash([]int{1}), look(real{d.Crash([]int{1})}), calls...)
	}
}

// changes are calls each of which changes the disk that some makes.
func changes() []call {
	return []call{add("a", "07"), add("d", ""), syn("a"), syn("b"), cut("a", 4), cut("a", 3), cut("a", 0), ren("a", "d"), ren("a", "b"), ren("b", "a"), ren("a", "a"), rem("a"), rem("c"), flip("a", 0, 0), flip("a", 4, 7), flip("b", 0, 3), arm(0), arm(3)}
}

// TestOwnWays: after Clone no call on one of the two is to be seen on the other one.
func TestOwnWays(t *testing.T) {
	for _, first := range changes() {
		for _, second := range changes() {
			d := after(10, some(add("a", "0708"), cut("a", 5))...)
			alone, other := after(10, some(add("a", "0708"), cut("a", 5), first)...), after(10, some(add("a", "0708"), cut("a", 5), second)...)
			c := d.Clone()
			still := look(real{c})
			first.do(real{d})
			sees(t, "P14.6", c, still, first)
			second.do(real{c})
			sees(t, "P14.6", d, look(real{alone}), first, second)
			sees(t, "P14.6", c, look(real{other}), first, second)
		}
	}
}

// TestOwnEnds: both may write behind the same end.
func TestOwnEnds(t *testing.T) {
	for _, size := range []int{0, 1, 5, 8, 31, 100} {
		d := disk.New(1000)
		d.Append("a", make([]byte, size))
		d.Append("a", []byte{1, 2, 3})
		d.Truncate("a", size+1)
		c, e := d.Clone(), d.Crash([]int{1000})
		for i, one := range []*disk.Disk{d, c, e} {
			one.Append("a", bytes.Repeat([]byte{byte(10 + i)}, 3))
		}
		for i, one := range []*disk.Disk{d, c, e} {
			want := append(make([]byte, size), 1, byte(10+i), byte(10+i), byte(10+i))
			if b, _ := one.Read("a"); !bytes.Equal(b, want) {
				t.Errorf("P14.6: disks share the memory behind an end: %x, not %x", b, want)
			}
		}
	}
}

// TestCloneArmed: each of the two fails at its own step.
func TestCloneArmed(t *testing.T) {
	d := after(10, some(arm(2))...)
	c := d.Clone()
	do(real{d}, syn("a"), syn("b"))
	sees(t, "P14.6", c, unchanged+", fails at 2")
	do(real{d}, syn("c"))
	if !d.Dead() || c.Dead() {
		t.Errorf("P14.6: dead are the first one %v, its clone %v", d.Dead(), c.Dead())
	}
	c.Arm(-1)
	do(real{c}, syn("c"), syn("c"), syn("c"), syn("c"))
	sees(t, "P14.6", c, someFiles+" free 4, steps 9")
	sees(t, "P14.6", d, "a:0102030405| b:06| c:| free 4, steps 8, dead")
}
