package logstore_test

import (
	"fmt"
	"math/rand"
	"strings"
	"testing"

	"tollhouse/api"
	"tollhouse/disk"
	"tollhouse/logstore"
)

// TestCompact: the file, byte for byte.
func TestCompact(t *testing.T) {
	for _, c := range []struct {
		batches [][]api.Change
		want    string
	}{
		{nil, ""},
		{[][]api.Change{batch(drop("a"))}, ""},
		{[][]api.Change{batch(set("a", "1"), drop("a")), batch(drop("b"))}, ""},
		{[][]api.Change{batch(set("a", "1"))}, "00000006 c8277a29 01 01 0161 0131 fe92acbf"},
		{[][]api.Change{batch(set("a", ""))}, "00000005 512e2b93 01 01 0161 00 3eda8919"},
		{[][]api.Change{batch(set("a", "5")), batch(set("a", "1"))}, "00000006 c8277a29 01 01 0161 0131 fe92acbf"},
		{[][]api.Change{batch(set("b", "3"), set("a", "1"), set("c", "")), batch(drop("b"))}, "00000006 c8277a29 01 01 0161 0131 fe92acbf" + fmt.Sprintf("%x", framed(set("c", "")))},
		{[][]api.Change{batch(set("\xff", "3"), set("a\x00", "1")), batch(set("a", ""), set("\x00", "2"))}, fmt.Sprintf("%x", framed(set("\x00", "2"))+framed(set("a", ""))+framed(set("a\x00", "1"))+framed(set("\xff", "3")))},
		{[][]api.Change{batch(set(strings.Repeat("k", maxKey), strings.Repeat("v", 300)))}, fmt.Sprintf("%x", framed(set(strings.Repeat("k", maxKey), strings.Repeat("v", 300))))},
	} {
		d, s := filled(t, c.batches...)
		contents, steps := listed(s.From(nil)), d.Steps()
		want := string(hexes(c.want))
		for i := range 3 {
			if code := s.Compact(); code != ok {
				t.Errorf("P15.5: Compact = %d", code)
			}
			is(t, "P15.5: after Compact", look(d), fmt.Sprintf("log:%s| free %d, steps %d", bare([]byte(want)), much-len(want), steps+3*(i+1)))
			is(t, "P15.8: after Compact", listed(s.From(nil)), contents)
			if s.Size() != len(want) {
				t.Errorf("P15.5: Size after Compact is %d, not %d", s.Size(), len(want))
			}
			twice(t, "P15.8: after Compact", s, d, tell(s))
		}
		s.Commit(batch(set("z", "9"), drop("a")))
		is(t, "P15.5: after one more Commit", fileOf(d), want+framed(set("z", "9"), drop("a")))
		is(t, "P15.5: after one more Commit", tell(opened(t, d.Crash(nil))), tell(s))
	}
}

// TestCompactOpened: a store that was opened, on a torn file too, with a batch of no changes in it.
func TestCompactOpened(t *testing.T) {
	d := holding(strings.Join(three, "") + three[0][:20])
	s := opened(t, d)
	if code := s.Compact(); code != ok {
		t.Errorf("P15.5: Compact = %d", code)
	}
	want := framed(set("b", "3")) + framed(set("c", ""))
	is(t, "P15.5: after Compact", files(d), fmt.Sprintf("log:%x| ", want))
	twice(t, "P15.8: after Compact", s, d, fmt.Sprintf(`"b"="3" "c"="" size %d`, len(want)))
}

// TestCompactBeside: a file .new that was there before is not written behind.
func TestCompactBeside(t *testing.T) {
	for _, rest := range []string{"", "junk", framed(set("x", "1"))} {
		for _, lasts := range []bool{true, false} {
			d, s := filled(t, batch(set("a", "5")), batch(set("a", "1")))
			d.Append(fresh, []byte(rest))
			d.Append("log.new2", []byte("x"))
			if lasts {
				d.Sync(fresh)
			}
			before := d.Steps()
			if code := s.Compact(); code != ok || d.Steps() != before+4 {
				t.Errorf("P15.5: Compact with .new beside: %d, %d steps", code, d.Steps()-before)
			}
			is(t, "P15.5: Compact with .new beside", files(d), fmt.Sprintf("log:%x| log.new2:|78 ", framed(set("a", "1"))))
		}
	}
}

// TestCompactRefused: each of its steps fails; nothing further is done, and the store is as it was.
func TestCompactRefused(t *testing.T) {
	old, now := framed(set("a", "5"))+framed(set("a", "1")), framed(set("a", "1"))
	for _, c := range []struct {
		beside string
		want   []string
	}{
		{"-", []string{
			fmt.Sprintf("log:%x| log.new:|%x", old, now),
			fmt.Sprintf("log:%x| log.new:|%x", old, now),
			fmt.Sprintf("log:%x| log.new:%x|", old, now),
			fmt.Sprintf("log:%x|", now),
		}},
		{"ab", []string{
			fmt.Sprintf("log:%x| log.new:|6162", old),
			fmt.Sprintf("log:%x| log.new:|%x", old, now),
			fmt.Sprintf("log:%x| log.new:|%x", old, now),
			fmt.Sprintf("log:%x| log.new:%x|", old, now),
			fmt.Sprintf("log:%x|", now),
		}},
	} {
		for at, want := range c.want {
			d, s := filled(t, batch(set("a", "5")), batch(set("a", "1")))
			if c.beside != "-" {
				d.Append(fresh, []byte(c.beside))
			}
			before := d.Steps()
			d.Arm(at)
			code := s.Compact()
			is(t, fmt.Sprintf("P15.5: beside %s: step %d fails", c.beside, at), files(d), want+" ")
			if at == len(c.want)-1 {
				if code != ok || s.Size() != 18 {
					t.Errorf("P15.5: Compact with all its steps: %d, size %d", code, s.Size())
				}
				continue
			}
			if code != isDead || d.Steps() != before+at+1 {
				t.Errorf("P15.5: step %d fails: Compact = %d after %d steps", at, code, d.Steps()-before)
			}
			still := look(d)
			if code := s.Compact(); code != isDead {
				t.Errorf("P15.5: Compact on a dead disk: %d", code)
			}
			is(t, "P15.5: on a dead disk", look(d), still)
			is(t, "P15.5: on a dead disk", tell(s), `"a"="1" size 36`)
			is(t, "P15.6: opened behind it", listed(opened(t, d.Crash(nil)).From(nil)), `"a"="1"`)
		}
	}
}

// TestCompactFull: the disk has to have room for both files, but not for what is removed first.
func TestCompactFull(t *testing.T) {
	for _, c := range []struct {
		room   int
		beside string
		want   api.Errno
	}{
		{36 + 18, "", ok},
		{36 + 17, "", isFull},
		{36, "", isFull},
		{36 + 18, "junk", ok},
		{36 + 17, "junk", isFull},
		{36 + 18, strings.Repeat("x", 18), ok},
	} {
		d := disk.New(c.room)
		s := opened(t, d)
		s.Commit(batch(set("a", "5")))
		s.Commit(batch(set("a", "1")))
		if c.beside != "" {
			d.Append(fresh, []byte(c.beside))
		}
		if code := s.Compact(); code != c.want {
			t.Errorf("P15.5: Compact with room for %d and %q beside: %d, not %d", c.room, c.beside, code, c.want)
		}
		size, file := 36, framed(set("a", "5"))+framed(set("a", "1"))
		if c.want == ok {
			size, file = 18, framed(set("a", "1"))
		}
		is(t, "P15.5: a disk with little room", files(d), fmt.Sprintf("log:%x| ", file))
		twice(t, "P15.5: a disk with little room", s, d, fmt.Sprintf(`"a"="1" size %d`, size))
	}
	// An empty store needs no room at all.
	d := disk.New(21)
	s := opened(t, d)
	s.Commit(batch(set("a", "5"), drop("a")))
	if code := s.Compact(); code != ok || d.Free() != 21 {
		t.Errorf("P15.5: Compact of an empty store on a full disk: %d, free %d", code, d.Free())
	}
}

// TestCompactNames: with a name that is too long for .new a store works, but can't be compacted.
func TestCompactNames(t *testing.T) {
	for n := 26; n <= maxFile; n++ {
		name := strings.Repeat("n", n)
		d := disk.New(much)
		s, code := logstore.Open(d, name)
		if code != ok {
			t.Fatalf("P15.2: Open of a name of %d bytes: %d", n, code)
		}
		s.Commit(batch(set("a", "5")))
		s.Commit(batch(set("a", "1")))
		before := look(d)
		code = s.Compact()
		if n <= maxFile-4 {
			if code != ok || s.Size() != 18 {
				t.Errorf("P15.5: Compact with a name of %d bytes: %d", n, code)
			}
			is(t, "P15.5: a long name", files(d), fmt.Sprintf("%s:%x| ", name, framed(set("a", "1"))))
			continue
		}
		if code != badName {
			t.Errorf("P15.5: Compact with a name of %d bytes: %d", n, code)
		}
		is(t, "P15.5: a name that is too long", look(d), before)
		is(t, "P15.5: a name that is too long", tell(s), `"a"="1" size 36`)
		if code := s.Commit(batch(set("b", "2"))); code != ok {
			t.Errorf("P15.5: Commit after a Compact that was refused: %d", code)
		}
		d.Arm(0)
		d.Append("x", nil)
		if code := s.Compact(); code != isDead {
			t.Errorf("P15.5: Compact with a long name on a dead disk: %d", code)
		}
	}
}

// TestCompactDrawn: drawn stores have the same contents behind a Compact, and no more than one frame for each key.
func TestCompactDrawn(t *testing.T) {
	draw := rand.New(rand.NewSource(1550))
	for range 200 {
		d, s := filled(t)
		for range draw.Intn(20) {
			s.Commit(drawnBatch(draw, 5))
		}
		contents, want := listed(s.From(nil)), ""
		for key, value := range s.From(nil) {
			want += framed(set(key, string(value)))
		}
		if code := s.Compact(); code != ok {
			t.Fatalf("P15.5: Compact = %d", code)
		}
		is(t, "P15.8: the file after Compact", fileOf(d), want)
		is(t, "P15.8: after Compact", listed(s.From(nil)), contents)
		twice(t, "P15.8: after Compact", s, d, tell(s))
		if s.Size() != len(want) {
			t.Errorf("P15.5: Size after Compact is %d, not %d", s.Size(), len(want))
		}
	}
}

// TestCompactLarge: what was committed in many batches may be more than one body may have.
func TestCompactLarge(t *testing.T) {
	d, s := filled(t)
	want := ""
	for i := range 20 {
		key, value := string(rune('a'+i)), strings.Repeat("v", maxItem-i)
		s.Commit(batch(set(key, value)))
		want += framed(set(key, value))
	}
	s.Commit(batch(set("a", ""), set("a", strings.Repeat("v", maxItem))))
	if code := s.Compact(); code != ok || s.Size() != len(want) || fileOf(d) != want {
		t.Errorf("P15.5: Compact of %d bytes: %d, size %d", len(want), code, s.Size())
	}
	if again := opened(t, d.Crash(nil)); again.Len() != 20 || again.Size() != len(want) {
		t.Errorf("P15.5: after Compact of %d bytes: %d keys", len(want), again.Len())
	}
}
