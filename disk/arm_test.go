package disk_test

import (
	"fmt"
	"math"
	"testing"

	"tollhouse/disk"
)

// TestArm: of the steps after Arm(at), at succeed and the next one fails.
func TestArm(t *testing.T) {
	for _, before := range [][]call{nil, some(), some(syn("a"), syn("a")), some(arm(2)), some(arm(0)), some(arm(-1)), some(arm(3), syn("a"), syn("a"))} {
		for at := range 40 {
			d := after(10, before...)
			d.Arm(at)
			steps := d.Steps()
			for i := range at {
				if code := d.Append("y", nil); code != ok || d.Dead() {
					t.Fatalf("P14.4: Arm(%d): step %d is %d, dead %v", at, i, code, d.Dead())
				}
			}
			if code := d.Append("y", nil); code != isDead || !d.Dead() || d.Steps() != steps+at+1 {
				t.Fatalf("P14.4: Arm(%d): step %d is %d, dead %v, steps %d", at, at, code, d.Dead(), d.Steps())
			}
			if code := d.Append("y", nil); code != isDead || d.Steps() != steps+at+1 {
				t.Fatalf("P14.4: Arm(%d): a call of a dead disk is %d, steps %d", at, code, d.Steps())
			}
		}
	}
}

// TestArmFar: a step that is far away does not come, nor does one before the first.
func TestArmFar(t *testing.T) {
	for _, at := range append([]int{-1, -2, -6, 1000}, far...) {
		for _, before := range [][]call{nil, some(), some(arm(0)), some(arm(7))} {
			d := after(10, before...)
			d.Arm(at)
			for i := range 500 {
				if code := d.Append("y", nil); code != ok || d.Dead() {
					t.Fatalf("P14.4: Arm(%d): step %d is %d", at, i, code)
				}
			}
		}
	}
}

// TestArmTwice: the later call holds, counted from where it is made.
func TestArmTwice(t *testing.T) {
	for _, c := range []struct {
		calls []call
		want  string
	}{
		{[]call{arm(3), arm(1)}, "free 10, steps 0, fails at 1"},
		{[]call{arm(1), arm(3)}, "free 10, steps 0, fails at 3"},
		{[]call{arm(0), arm(2)}, "free 10, steps 0, fails at 2"},
		{[]call{arm(2), arm(0)}, "free 10, steps 0, fails at 0"},
		{[]call{arm(2), arm(2)}, "free 10, steps 0, fails at 2"},
		{[]call{arm(0), arm(-1)}, "free 10, steps 0"},
		{[]call{arm(0), arm(math.MinInt)}, "free 10, steps 0"},
		{[]call{arm(-1), arm(0)}, "free 10, steps 0, fails at 0"},
		{[]call{arm(-9), arm(4)}, "free 10, steps 0, fails at 4"},
		{[]call{arm(math.MaxInt), arm(4)}, "free 10, steps 0, fails at 4"},
		{[]call{arm(4), arm(math.MaxInt)}, "free 10, steps 0"},
		{[]call{arm(3), add("a", ""), arm(3)}, "a:| free 10, steps 1, fails at 3"},
		{[]call{arm(3), add("a", ""), syn("a")}, "a:| free 10, steps 2, fails at 1"},
		{[]call{arm(3), add("a", ""), syn("a"), syn("a")}, "a:| free 10, steps 3, fails at 0"},
		{[]call{arm(3), add("a", ""), syn("a"), arm(-1), syn("a")}, "a:| free 10, steps 3"},
		{[]call{add("a", ""), syn("a"), arm(1)}, "a:| free 10, steps 2, fails at 1"},
		{[]call{arm(-1), add("a", ""), syn("a"), arm(0)}, "a:| free 10, steps 2, fails at 0"},
	} {
		sees(t, "P14.4", after(10, c.calls...), c.want, c.calls...)
	}
}

// TestArmDead: nothing brings a dead disk back.
func TestArmDead(t *testing.T) {
	dead := someFiles + " free 4, steps 6, dead"
	for _, at := range append([]int{-2, -1, 0, 1, 2, 5}, far...) {
		d := after(10, some(arm(0), rem("b"))...)
		for range 2 {
			d.Arm(at)
			sees(t, "P14.4", d, dead, arm(at))
			for _, c := range []call{add("a", "07"), syn("a"), cut("a", 0), ren("a", "b"), rem("a")} {
				if code := c.do(real{d}); code != isDead {
					t.Errorf("P14.4: Arm(%d) on a dead disk, %s = %d", at, c.text, code)
				}
			}
			sees(t, "P14.4", d, dead, arm(at))
		}
		sees(t, "P14.4", d.Crash(nil), "a:010203| b:| c:| free 7, steps 0", arm(at))
		sees(t, "P14.4", d.Clone(), dead, arm(at))
	}
}

// TestFailure: at the step that fails, the bytes of an Append are there afterwards, and nothing else is done.
func TestFailure(t *testing.T) {
	for _, r := range []row{
		{some(arm(0)), add("a", "07"), isDead, "a:010203|040507 b:|06 c:| free 3, steps 6, dead"},
		{some(arm(0)), add("a", ""), isDead, someFiles + " free 4, steps 6, dead"},
		{some(arm(0)), add("c", "0708090a"), isDead, "a:010203|0405 b:|06 c:|0708090a free 0, steps 6, dead"},
		{some(arm(0)), add("d", "07"), isDead, someFiles + " d:|07 free 3, steps 6, dead"},
		{some(arm(0)), add("d", ""), isDead, someFiles + " d:| free 4, steps 6, dead"},
		{some(arm(0)), add("d", "0708090a0b"), isFull, unchanged + ", fails at 0"},
		{some(arm(0)), add("", ""), badName, unchanged + ", fails at 0"},
		{some(arm(0)), syn("a"), isDead, someFiles + " free 4, steps 6, dead"},
		{some(arm(0)), syn("b"), isDead, someFiles + " free 4, steps 6, dead"},
		{some(arm(0)), syn("d"), isNone, unchanged + ", fails at 0"},
		{some(arm(0)), cut("a", 0), isDead, someFiles + " free 4, steps 6, dead"},
		{some(arm(0)), cut("a", 4), isDead, someFiles + " free 4, steps 6, dead"},
		{some(arm(0)), cut("a", 5), isDead, someFiles + " free 4, steps 6, dead"},
		{some(arm(0)), cut("a", 6), badRange, unchanged + ", fails at 0"},
		{some(arm(0)), cut("d", 0), isNone, unchanged + ", fails at 0"},
		{some(arm(0)), ren("a", "d"), isDead, someFiles + " free 4, steps 6, dead"},
		{some(arm(0)), ren("a", "b"), isDead, someFiles + " free 4, steps 6, dead"},
		{some(arm(0)), ren("a", "a"), isDead, someFiles + " free 4, steps 6, dead"},
		{some(arm(0)), ren("d", "a"), isNone, unchanged + ", fails at 0"},
		{some(arm(0)), ren("a", " "), badName, unchanged + ", fails at 0"},
		{some(arm(0)), rem("a"), isDead, someFiles + " free 4, steps 6, dead"},
		{some(arm(0)), rem("d"), isNone, unchanged + ", fails at 0"},
		{some(arm(1)), syn("a"), ok, "a:0102030405| b:|06 c:| free 4, steps 6, fails at 0"},
		{some(arm(1), syn("a")), syn("b"), isDead, "a:0102030405| b:|06 c:| free 4, steps 7, dead"},
		{some(arm(1), rem("a")), ren("b", "a"), isDead, "b:|06 c:| free 9, steps 7, dead"},
	} {
		d := after(10, r.before...)
		if code := r.call.do(real{d}); code != r.code {
			t.Errorf("P14.4: after %s: %s = %d, not %d", told(r.before), r.call.text, code, r.code)
		}
		sees(t, "P14.4", d, r.want, append(r.before[:len(r.before):len(r.before)], r.call)...)
	}
}

// TestRefusedDoNotCount: between two steps there may be as many refused calls as one likes.
func TestRefusedDoNotCount(t *testing.T) {
	steps := []call{syn("b"), cut("b", 1), ren("b", "b"), syn("a"), ren("c", "c"), syn("c")}
	for at := range len(steps) {
		d := after(10, some(arm(at))...)
		for i, c := range steps[:at+1] {
			for code, calls := range refused() {
				for _, wrong := range calls {
					if got := wrong.do(real{d}); got != code {
						t.Fatalf("P14.4: Arm(%d), before step %d: %s = %d, not %d", at, i, wrong.text, got, code)
					}
				}
			}
			want := ok
			if i == at {
				want = isDead
			}
			if code := c.do(real{d}); code != want {
				t.Fatalf("P14.4: Arm(%d), step %d: %s = %d, not %d", at, i, c.text, code, want)
			}
		}
	}
}

// TestArmIsNoStep: nor are Flip, Read, Names, Crash and Clone.
func TestArmIsNoStep(t *testing.T) {
	d := after(10, some(arm(2))...)
	for range 5 {
		d.Read("a")
		d.Names()
		d.Free()
		d.Steps()
		d.Dead()
		d.Crash([]int{1})
		d.Clone()
		d.Flip("a", 0, 0)
		d.Flip("a", 0, 0)
		sees(t, "P14.4", d, unchanged+", fails at 2")
	}
	d.Arm(1)
	sees(t, "P14.4", d, unchanged+", fails at 1")
}

// TestFails: look finds the step that fails; the tests lean on that.
func TestFails(t *testing.T) {
	for at := range patience {
		d := disk.New(3)
		d.Arm(at)
		sees(t, "P14.4", d, fmt.Sprintf("free 3, steps 0, fails at %d", at))
		sees(t, "P14.4", d, fmt.Sprintf("free 3, steps 0, fails at %d", at))
	}
}
