package disk_test

import (
	"bytes"
	"math"
	"testing"

	"tollhouse/disk"
)

func TestNew(t *testing.T) {
	for _, c := range []struct{ room, free int }{
		{math.MinInt, 0}, {math.MinInt + 1, 0}, {-1 << 32, 0}, {-2, 0}, {-1, 0}, {0, 0}, {1, 1}, {2, 2}, {10, 10}, {255, 255}, {1 << 32, 1 << 32}, {math.MaxInt - 1, math.MaxInt - 1}, {math.MaxInt, math.MaxInt},
	} {
		d := disk.New(c.room)
		if d.Free() != c.free || len(d.Names()) != 0 || d.Steps() != 0 || d.Dead() {
			t.Errorf("P14.1: New(%d): free %d, names %q, steps %d, dead %v", c.room, d.Free(), d.Names(), d.Steps(), d.Dead())
		}
		for i := range 100 {
			if code := d.Append("a", nil); code != ok {
				t.Fatalf("P14.1: New(%d) is armed: step %d is %d", c.room, i, code)
			}
		}
	}
}

// TestRoom fills disks to their last byte.
func TestRoom(t *testing.T) {
	for _, c := range []struct{ room, fit int }{{math.MinInt, 0}, {-7, 0}, {-1, 0}, {0, 0}, {1, 1}, {2, 2}, {3, 3}, {10, 10}, {1000, 1000}} {
		d := disk.New(c.room)
		if code := d.Append("a", make([]byte, c.fit+1)); code != isFull || len(d.Names()) != 0 {
			t.Errorf("P14.1: New(%d): Append of %d bytes: %d", c.room, c.fit+1, code)
		}
		if code := d.Append("a", make([]byte, c.fit)); code != ok || d.Free() != 0 {
			t.Errorf("P14.1: New(%d): Append of %d bytes: %d, free %d", c.room, c.fit, code, d.Free())
		}
		if code := d.Append("b", []byte{1}); code != isFull {
			t.Errorf("P14.1: New(%d): Append to a full disk: %d", c.room, code)
		}
		if code := d.Append("b", nil); code != ok {
			t.Errorf("P14.1: New(%d): Append of nothing to a full disk: %d", c.room, code)
		}
	}
}

// TestNewOnes: each disk is its own.
func TestNewOnes(t *testing.T) {
	d, e := disk.New(10), disk.New(10)
	d.Arm(0)
	d.Append("a", []byte{1})
	sees(t, "P14.1", e, "free 10, steps 0")
	sees(t, "P14.1", disk.New(10), "free 10, steps 0")
	e.Append("a", []byte{2, 3})
	if b, there := d.Read("a"); !there || !bytes.Equal(b, []byte{1}) {
		t.Errorf("P14.1: a file of another disk is found: %x", b)
	}
}
