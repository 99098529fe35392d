package disk_test

import (
	"bytes"
	"slices"
	"testing"

	"tollhouse/api"
	"tollhouse/disk"
)

// TestExamples goes through the chapter's table, line by line.
func TestExamples(t *testing.T) {
	d := disk.New(10)
	answers := func(got []api.Errno, want ...api.Errno) {
		t.Helper()
		if !slices.Equal(got, want) {
			t.Errorf("the chapter's examples: %d, not %d", got, want)
		}
	}
	reads := func(d *disk.Disk, name string, want ...byte) {
		t.Helper()
		if b, there := d.Read(name); !there || !bytes.Equal(b, want) {
			t.Errorf("the chapter's examples: Read(%s) = %x, %v", name, b, there)
		}
	}

	answers(do(real{d}, add("a", "010203"), syn("a"), add("a", "0405")), ok, ok, ok)
	reads(d, "a", 1, 2, 3, 4, 5)
	if d.Free() != 5 {
		t.Errorf("the chapter's examples: free %d", d.Free())
	}

	reads(d.Crash(nil), "a", 1, 2, 3)
	reads(d.Crash([]int{1}), "a", 1, 2, 3, 4)
	reads(d.Crash([]int{9}), "a", 1, 2, 3, 4, 5)

	answers(do(real{d}, add("b", "010203040506"), add("", ""), syn("b")), isFull, badName, isNone)

	answers(do(real{d}, cut("a", 2), cut("a", 3)), ok, badRange)
	reads(d.Crash(nil), "a", 1, 2)

	answers(do(real{d}, ren("a", "c")), ok)
	if !slices.Equal(d.Names(), []string{"c"}) || d.Steps() != 5 {
		t.Errorf("the chapter's examples: names %q, steps %d", d.Names(), d.Steps())
	}

	d.Arm(1)
	answers(do(real{d}, add("c", "09"), syn("c")), ok, isDead)
	if !d.Dead() {
		t.Error("the chapter's examples: the disk isn't dead")
	}
	answers(do(real{d}, add("c", "09")), isDead)
	if d.Steps() != 7 {
		t.Errorf("the chapter's examples: steps %d", d.Steps())
	}
}

// TestNumbers: the errors have the numbers that the chapter gives them.
func TestNumbers(t *testing.T) {
	for want, got := range map[api.Errno]api.Errno{badName: api.ErrDiskName, isFull: api.ErrDiskFull, isNone: api.ErrDiskNone, badRange: api.ErrDiskRange, isDead: api.ErrDiskDead, ok: api.OK} {
		if got != want {
			t.Errorf("an error of layer 14 is %d, not %d", got, want)
		}
	}
	if api.MaxFile != maxFile {
		t.Errorf("MaxFile is %d", api.MaxFile)
	}
}
