package disk_test

import (
	"fmt"
	"math/rand"
	"strings"
	"testing"

	"tollhouse/disk"
)

// unarmed is what look tells, but for the step at which the disk is to fail.
func unarmed(d *disk.Disk) string {
	text, _, _ := strings.Cut(look(real{d}), ", fails")
	return text
}

// TestBeside: an armed disk does what one that is not armed does, call by call, up to the step at which it fails.
func TestBeside(t *testing.T) {
	draw := rand.New(rand.NewSource(1480))
	var calls []call
	for range 400 {
		calls = append(calls, drawn(draw))
	}
	for at := range 60 {
		d, e := disk.New(25), disk.New(25)
		d.Arm(at)
		for _, c := range calls {
			before := look(real{e})
			want := c.do(real{e})
			got := c.do(real{d})
			if e.Steps() == at+1 {
				if got != isDead || !d.Dead() || d.Steps() != at+1 {
					t.Fatalf("P14.8: Arm(%d): step %d, %s, is %d", at, e.Steps(), c.text, got)
				}
				failed(t, d, c, before, e)
				break
			}
			if got != want || unarmed(d) != unarmed(e) {
				t.Fatalf("P14.8: Arm(%d): %s = %d, and the disk is %s; on one that isn't armed %d and %s", at, c.text, got, look(real{d}), want, look(real{e}))
			}
		}
		if !d.Dead() {
			t.Fatalf("P14.8: Arm(%d): never dead", at)
		}
	}
}

// failed holds a disk that has just failed against what it was before the step, or, for Append, what it would be behind it.
func failed(t *testing.T, d *disk.Disk, c call, before string, e *disk.Disk) {
	t.Helper()
	want := files(before)
	if strings.HasPrefix(c.text, "Append") {
		want = files(look(real{e}))
	}
	if got := files(look(real{d})); got != want {
		t.Errorf("P14.8: the step that fails is %s: %s, not %s", c.text, got, want)
	}
}

// files is what look tells of files and room.
func files(text string) string {
	text, _, _ = strings.Cut(text, ", steps")
	return text
}

// TestFull: on a full disk an Append is done to its last byte or refused, and all that was there stays.
func TestFull(t *testing.T) {
	draw := rand.New(rand.NewSource(1481))
	for room := range 30 {
		d, m := disk.New(room), newModel(room)
		for range 40 {
			b := make([]byte, draw.Intn(room/2+3))
			draw.Read(b)
			c := add([]string{"a", "b", "c"}[draw.Intn(3)], fmt.Sprintf("%x", b))
			before, free := look(real{d}), d.Free()
			code := c.do(real{d})
			if (code == isFull) != (len(b) > free) || code != isFull && code != ok {
				t.Fatalf("P14.8: %s = %d with %d bytes free", c.text, code, free)
			}
			if code == isFull {
				sees(t, "P14.8", d, before, c)
			} else {
				c.do(m)
				sees(t, "P14.8", d, look(m), c)
			}
			if draw.Intn(5) == 0 {
				d.Sync("a")
				m.Sync("a")
			}
		}
		for _, c := range []call{syn("a"), ren("a", "d"), cut("d", 0), rem("b"), rem("d")} {
			if got, want := c.do(real{d}), c.do(m); got != want {
				t.Errorf("P14.8: on a full disk %s = %d, not %d", c.text, got, want)
			}
			sees(t, "P14.8", d, look(m), c)
		}
	}
}
