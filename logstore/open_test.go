package logstore_test

import (
	"fmt"
	"math"
	"strings"
	"testing"

	"tollhouse/api"
	"tollhouse/disk"
	"tollhouse/logstore"
)

// three are the frames of a file, of which the second one has no changes.
var three = []string{framed(set("a", "1"), set("b", "22")), framed(), framed(drop("a"), set("c", ""), set("b", "3"))}

// states are what a store with the first of them tells.
var states = []string{"size 0", `"a"="1" "b"="22" size 24`, `"a"="1" "b"="22" size 37`, `"b"="3" "c"="" size 62`}

// TestOpenEmpty: on an empty disk a file comes to be.
func TestOpenEmpty(t *testing.T) {
	for _, room := range []int{0, 1, 100} {
		d := disk.New(room)
		s := opened(t, d)
		is(t, "P15.2: an empty disk", tell(s), "size 0")
		is(t, "P15.2: an empty disk", look(d), fmt.Sprintf("log:| free %d, steps 2", room))
		s = opened(t, d)
		is(t, "P15.2: opened again", tell(s), "size 0")
		is(t, "P15.2: opened again", look(d), fmt.Sprintf("log:| free %d, steps 3", room))
	}
	d := disk.New(0)
	d.Append(log, nil)
	opened(t, d)
	is(t, "P15.2: an empty file", look(d), "log:| free 0, steps 2")
}

// TestOpenFrames: all changes of all frames are done, in order, and what was read lasts.
func TestOpenFrames(t *testing.T) {
	for n := range 4 {
		file := strings.Join(three[:n], "")
		for _, lasting := range []int{0, 5, len(file)} {
			d := disk.New(much)
			lasting = min(lasting, len(file))
			d.Append(log, []byte(file[:lasting]))
			d.Sync(log)
			d.Append(log, []byte(file[lasting:]))
			s := opened(t, d)
			is(t, "P15.2: a file of frames", tell(s), states[n])
			is(t, "P15.2: a file of frames", look(d), fmt.Sprintf("log:%x| free %d, steps 4", file, much-len(file)))
		}
	}
	for _, c := range []struct{ file, want string }{
		{framed(set("a", "1")) + framed(set("a", "2")), `"a"="2" size 36`},
		{framed(set("a", "2")) + framed(set("a", "1")), `"a"="1" size 36`},
		{framed(set("a", "1"), set("a", "2")), `"a"="2" size 23`},
		{framed(set("a", "1"), drop("a"), set("a", "3")), `"a"="3" size 26`},
		{framed(set("a", "1"), drop("a")), `size 21`},
		{framed(drop("a"), set("a", "1")), `"a"="1" size 21`},
		{framed(drop("a")), `size 16`},
		{framed(set("a", "1")) + framed(drop("a"), drop("a")), `size 37`},
		{framed(set("b", "1")) + framed(set("a", "2")), `"a"="2" "b"="1" size 36`},
		{framed() + framed() + framed(), `size 39`},
	} {
		is(t, "P15.2: a file of frames", tell(opened(t, holding(c.file))), c.want)
	}
}

// TestOpenTorn: a file of three frames ends at every byte.
func TestOpenTorn(t *testing.T) {
	file := strings.Join(three, "")
	for end := range len(file) + 1 {
		whole, n := "", 0
		for n < 3 && len(whole)+len(three[n]) <= end {
			whole, n = whole+three[n], n+1
		}
		steps := 1
		if len(whole) < end {
			steps = 2
		}
		for _, lasting := range []int{0, len(whole), end} {
			d := disk.New(much)
			d.Append(log, []byte(file[:lasting]))
			d.Sync(log)
			d.Append(log, []byte(file[lasting:end]))
			before := d.Steps()
			s := opened(t, d)
			is(t, fmt.Sprintf("P15.2: a file of %d bytes", end), tell(s), states[n])
			is(t, fmt.Sprintf("P15.2: a file of %d bytes", end), look(d), fmt.Sprintf("log:%x| free %d, steps %d", whole, much-len(whole), before+steps))
			s.Commit(batch(set("z", "9")))
			again := opened(t, d.Crash(nil))
			is(t, "P15.2: with one more frame in the place of the torn one", tell(again), tell(s))
		}
	}
}

// torn fails unless Open takes an end for torn, on its own and behind a frame.
func torn(t *testing.T, end string) {
	t.Helper()
	for n := range 2 {
		whole := strings.Join(three[:n], "")
		d := holding(whole + end)
		s, code := logstore.Open(d, log)
		if code != ok {
			t.Errorf("P15.2: a file with the end %x: %d", end, code)
			continue
		}
		is(t, "P15.2: a file with the end "+short(end), tell(s), states[n])
		is(t, "P15.2: a file with the end "+short(end), look(d), fmt.Sprintf("log:%x| free %d, steps 4", whole, much-len(whole)))
	}
}

// TestOpenShort: fewer than 8 bytes are torn, whatever they are.
func TestOpenShort(t *testing.T) {
	for n := 1; n < 8; n++ {
		for _, c := range []string{"\x00", "\x01", "\xff", "k"} {
			torn(t, strings.Repeat(c, n))
		}
		torn(t, headOf(0)[:n])
		torn(t, headOf(1)[:n])
		torn(t, headOf(math.MaxUint32)[:n])
	}
	for i := range 256 {
		torn(t, string([]byte{byte(i)}))
	}
}

// TestOpenLong: a frame whose first sum is right and which needs more bytes than are left is torn, whatever stands in it, and however long it says it is.
func TestOpenLong(t *testing.T) {
	for _, n := range []int{0, 1, 2, 100, 255, 256, 65535, 65536, maxFrame - 1, maxFrame, maxFrame + 1, math.MaxInt32, math.MaxInt32 + 1, math.MaxUint32 - 12, math.MaxUint32 - 11, math.MaxUint32 - 4, math.MaxUint32 - 3, math.MaxUint32} {
		for _, c := range []string{"\x00", "\xff", "k"} {
			for _, left := range []int{0, 1, 2, 3, 4, 5, n, n + 1, n + 2, n + 3} {
				if left < n+4 && left < 400 {
					torn(t, headOf(n)+strings.Repeat(c, left))
				}
			}
		}
	}
	// What looks like a whole frame within a torn one counts for nothing.
	torn(t, headOf(200)+three[0]+three[0])
}

// fails fails unless Open takes a file for spoilt, and leaves it as it is: on its own, behind frames, and with more behind it.
func fails(t *testing.T, why, frame string) {
	t.Helper()
	for _, ahead := range []string{"", three[0], three[0] + three[1]} {
		for _, behind := range []string{"", three[2], three[2][:9], "\x00"} {
			file := ahead + frame + behind
			d := holding(ahead + frame)
			d.Append(log, []byte(behind))
			before := look(d)
			s, code := logstore.Open(d, log)
			if s != nil || code != spoilt {
				t.Errorf("P15.2: %s: the file %s: %d", why, short(file), code)
			}
			is(t, "P15.2: "+why+": after Open", look(d), before)
		}
	}
}

// TestOpenSpoiltSums: a first sum or a second sum that is wrong, by a bit or altogether.
func TestOpenSpoiltSums(t *testing.T) {
	for _, f := range three {
		for i := range 8 * len(f) {
			b := []byte(f)
			b[i/8] ^= 1 << (i % 8)
			fails(t, fmt.Sprint("bit ", i, " turned"), string(b))
		}
	}
	// Eight times 0xff is not among them: a length with its right sum.
	for _, c := range []string{"\x00", "\xfe", "k"} {
		fails(t, "eight bytes without a sum", strings.Repeat(c, 8))
		fails(t, "a frame without a first sum", three[0][:4]+strings.Repeat(c, 4)+three[0][8:])
		fails(t, "a frame without a second sum", three[0][:21]+strings.Repeat(c, 4))
	}
	body := bodyOf(set("a", "1"))
	turned := func(s string) string { return string([]byte{s[3], s[2], s[1], s[0]}) }
	head := headOf(len(body))
	fails(t, "the first sum turned round", head[:4]+turned(head[4:])+body+sums(body))
	fails(t, "the second sum turned round", head+body+turned(sums(body)))
	fails(t, "the length turned round", turned(head[:4])+head[4:]+body+sums(body))
	fails(t, "the second sum is that of the length", head+body+head[4:])
	fails(t, "the second sum is of the whole frame", head+body+sums(head+body))
	fails(t, "the first sum is that of the body", head[:4]+sums(body)+body+sums(body))
	for _, n := range []int{1, 100, maxFrame, math.MaxUint32} {
		wrong := []byte(headOf(n))
		wrong[7]++
		fails(t, fmt.Sprint("a wrong first sum, and too few bytes for a length of ", n), string(wrong))
	}
}

// TestOpenSpoiltBodies: sums that are right, around bodies that are no batch's.
func TestOpenSpoiltBodies(t *testing.T) {
	long := func(n int) string { return strings.Repeat("k", n) }
	for why, body := range map[string]string{
		"no bytes":                                   "",
		"a change less than is said":                 "\x01",
		"two less":                                   "\x02",
		"one of two":                                 "\x02\x00\x01a",
		"none is said, and one stands there":         "\x00\x00\x01a",
		"a byte too many":                            "\x00\x00",
		"a byte too many behind a change":            "\x01\x00\x01a\x00",
		"a change too many":                          "\x01\x00\x01a\x00\x01b",
		"the kind 2":                                 "\x01\x02\x01a",
		"the kind 2 with a value":                    "\x01\x02\x01a\x011",
		"the kind 255":                               "\x01\xff\x01a\x011",
		"the kind 128":                               "\x01\x80\x01a",
		"a kind alone":                               "\x01\x00",
		"the other kind alone":                       "\x01\x01",
		"a key without a value":                      "\x01\x01\x01a",
		"a value that ends early":                    "\x01\x01\x01a\x05123",
		"a key that ends early":                      "\x01\x00\x05abc",
		"a dropped key with a value":                 "\x01\x00\x01a\x011",
		"an empty key":                               "\x01\x01\x00\x011",
		"an empty key, dropped":                      "\x01\x00\x00",
		"an empty key behind a good one":             "\x02\x00\x01a\x00\x00",
		"an empty key ahead of a good one":           "\x02\x00\x00\x00\x01a",
		"a long key":                                 bodyOf(set(long(maxKey+1), "1")),
		"a long key, dropped":                        bodyOf(drop(long(maxKey + 1))),
		"a far longer key":                           bodyOf(set(long(300), "1")),
		"a far longer key, dropped":                  bodyOf(drop(long(300))),
		"a long value":                               bodyOf(set("a", long(maxItem+1))),
		"a long value behind a good change":          bodyOf(drop("b"), set("a", long(maxItem+1))),
		"MaxBatch changes and one":                   bodyOf(counted(maxBatch+1, drops)...),
		"far more than there are":                    "\xff\xff\xff\xff\xff\xff\xff\xff\xff",
		"a number of changes in three bytes":         "\xfd\x00\x01\x00\x01a",
		"a number of changes in five bytes":          "\xfe\x00\x00\x00\x01\x00\x01a",
		"a number of changes in nine bytes":          "\xff\x00\x00\x00\x00\x00\x00\x00\x01\x00\x01a",
		"no changes in three bytes":                  "\xfd\x00\x00",
		"half a number of changes":                   "\xfd\x00",
		"a key's length in three bytes":              "\x01\x00\xfd\x00\x01a",
		"a value's length in three bytes":            "\x01\x01\x01a\xfd\x00\x011",
		"a value's length in five bytes":             "\x01\x01\x01a\xfe\x00\x00\x00\x011",
		"a value's length in nine bytes":             "\x01\x01\x01a\xff\x00\x00\x00\x00\x00\x00\x00\x011",
		"an empty value's length in three bytes":     "\x01\x01\x01a\xfd\x00\x00",
		"a length that no value has":                 "\x01\x01\x01a\xff\xff\xff\xff\xff\xff\xff\xff\xff",
		"a length that no key has":                   "\x01\x00\xff\xff\xff\xff\xff\xff\xff\xffa",
		"a frame":                                    three[0],
		"two bodies":                                 bodyOf(set("a", "1")) + bodyOf(set("b", "1")),
		"a good body cut off at its end":             bodyOf(set("a", "1"), set("b", "2"))[:10],
		"a good body without its number of changes":  bodyOf(set("a", "1"))[1:],
		"MaxBatch changes, the last one of no kind":  bodyOf(counted(maxBatch, drops)...)[:3+6*(maxBatch-1)] + "\x02\x01a",
		"an empty key at the end of a long list":     bodyOf(append(counted(300, drops), drop(""))...),
		"a wrong kind ahead of changes that are one": "\x02\x03\x01a\x00\x01b",
	} {
		fails(t, "a body with "+why, around(body))
	}
}

// TestOpenRightBodies: what just may be.
func TestOpenRightBodies(t *testing.T) {
	long := func(n int) string { return strings.Repeat("k", n) }
	for _, l := range [][]api.Change{
		nil,
		batch(set(long(maxKey), "")),
		batch(drop(long(maxKey))),
		batch(set("a", long(252))),
		batch(set("a", long(253))),
		batch(set("a", long(65535))),
		batch(set("a", long(65536))),
		batch(set("a", long(maxItem))),
		counted(252, func(key string, i int) api.Change { return set(key, "") }),
		counted(253, func(key string, i int) api.Change { return set(key, "1") }),
		counted(maxBatch, drops),
		counted(maxBatch, func(key string, i int) api.Change { return set(key, key) }),
		append(counted(maxBatch-1, func(key string, i int) api.Change { return set("a", key) }), set("a", "")),
	} {
		file := framed(l...)
		d := disk.New(4 * maxItem)
		d.Append(log, []byte(file))
		d.Append(log, []byte(three[0]))
		g, _ := openLedger(d.Clone(), log)
		is(t, "P15.2: the frame of "+spell(l), tell(opened(t, d)), tell(g))
	}
	// Of a body that is read only the number of changes and their form are asked for, so that one may be longer than Frame makes it.
	for _, size := range []int{maxFrame, maxFrame + 1} {
		l := heavy(size)
		s := opened(t, holding(framed(l...)))
		if s.Len() != 16 || s.Size() != size+12 {
			t.Errorf("P15.2: a body of %d bytes: %d keys, size %d", size, s.Len(), s.Size())
		}
		for _, c := range l {
			if value, _ := s.Get(c.Key); string(value) != string(c.Value) {
				t.Errorf("P15.2: a body of %d bytes: %d bytes for %q", size, len(value), c.Key)
			}
		}
	}
}

// beside opens a file with the program and with the tests' own words.
func beside(t *testing.T, file string) {
	t.Helper()
	d, e := disk.New(much), disk.New(much)
	for _, x := range []*disk.Disk{d, e} {
		x.Append(log, []byte(file))
		x.Append("other", []byte("x"))
	}
	s, got := openReal(d, log)
	g, want := openLedger(e, log)
	if got != want || (s == nil) != (g == nil) {
		t.Fatalf("P15.2: the file %x: %d, not %d", file, got, want)
	}
	if s != nil {
		is(t, "P15.2: the file "+bare([]byte(file)), tell(s), tell(g))
	}
	is(t, "P15.2: the file "+bare([]byte(file)), look(d), look(e))
}

// TestOpenAllBodies: all bodies of one byte, those of two of which the first one is an edge, and all that differ from a right one in one byte, are longer or shorter by one, or have two bytes exchanged.
func TestOpenAllBodies(t *testing.T) {
	beside(t, around(""))
	for i := range 256 {
		beside(t, around(string([]byte{byte(i)})))
		for _, first := range []byte{0, 1, 2, 252, 253, 254, 255} {
			beside(t, around(string([]byte{first, byte(i)})))
		}
	}
	for _, l := range [][]api.Change{batch(set("a", "1"), drop("bc"), set("d", "")), batch(drop("a"), drop("a")), batch(set("abc", "\x00\x01a")), batch(set(strings.Repeat("k", 64), strings.Repeat("v", 253)), drop("b"))} {
		body := bodyOf(l...)
		beside(t, around(body))
		for i := range len(body) {
			for j := range 256 {
				// Within a long key or value one byte is like another.
				if j < 3 || len(body) < 50 || j > 60 && j < 68 || j > 250 {
					beside(t, around(body[:i]+string([]byte{byte(j)})+body[i+1:]))
				}
			}
			beside(t, around(body[:i]+body[i+1:]))
			beside(t, around(body[:i]))
			beside(t, around(body[i:]))
			for _, c := range []string{"\x00", "\x01", "\xfd", "a"} {
				beside(t, around(body[:i]+c+body[i:]))
			}
			if i > 0 {
				beside(t, around(body[:i-1]+body[i:i+1]+body[i-1:i]+body[i+1:]))
			}
		}
	}
}

// TestOpenBeside: a file .new is removed, whatever it has; files of other names stay.
func TestOpenBeside(t *testing.T) {
	for _, c := range []struct {
		name, file, rest, want, state string
		steps                         int
	}{
		{"no file yet", "-", "", "log:|", "size 0", 3},
		{"an empty file", "", "junk", "log:|", "size 0", 2},
		{"a file with frames", three[0], three[2], fmt.Sprintf("log:%x|", three[0]), states[1], 2},
		{"a torn file", three[0] + "torn", three[2], fmt.Sprintf("log:%x|", three[0]), states[1], 3},
		{"a file with frames and a torn one", three[0], three[2][:9], fmt.Sprintf("log:%x|", three[0]), states[1], 2},
	} {
		for _, lasts := range []bool{true, false} {
			d := disk.New(much)
			if c.file != "-" {
				d.Append(log, []byte(c.file))
			}
			d.Append(fresh, []byte(c.rest))
			if lasts {
				d.Sync(fresh)
			}
			before := d.Steps()
			is(t, "P15.2: beside .new: "+c.name, tell(opened(t, d)), c.state)
			is(t, "P15.2: beside .new: "+c.name, files(d), c.want+" ")
			if d.Steps() != before+c.steps {
				t.Errorf("P15.2: beside .new: %s: %d steps", c.name, d.Steps()-before)
			}
		}
	}
	d := holding(three[0])
	others := []string{".new", "lo", "log.ne", "log.new.new", "log.new2", "logs", "new", "xlog.new", "Log.new"}
	for _, name := range others {
		d.Append(name, []byte(name))
	}
	d.Append(fresh, []byte("junk"))
	opened(t, d)
	for _, name := range others {
		if b, _ := d.Read(name); string(b) != name {
			t.Errorf("P15.2: the file %s has %q", name, b)
		}
	}
	if _, there := d.Read(fresh); there || len(d.Names()) != len(others)+1 {
		t.Errorf("P15.2: after Open the files are %q", d.Names())
	}
}

// TestOpenSpoiltBeside: a spoilt file is found after .new was removed, and nothing more is done then.
func TestOpenSpoiltBeside(t *testing.T) {
	d := disk.New(much)
	d.Append(log, []byte(three[0]+"spoilt!!"))
	d.Append(fresh, []byte("junk"))
	if s, code := logstore.Open(d, log); s != nil || code != spoilt {
		t.Errorf("P15.2: a spoilt file beside .new: %d", code)
	}
	is(t, "P15.2: a spoilt file beside .new", look(d), fmt.Sprintf("log:|%x free %d, steps 3", three[0]+"spoilt!!", much-32))
}

// TestOpenRefused: at each of its steps the disk fails, or is dead already; nothing further is done.
func TestOpenRefused(t *testing.T) {
	whole, rest := three[0], three[2][:15]
	for _, c := range []struct {
		name, file, beside string // "-": there is no such file
		want               []string
	}{
		{"an empty disk", "-", "-", []string{"log:|", "log:|"}},
		{"only .new", "-", "ab", []string{"log.new:|6162", "log:|", "log:|"}},
		{"a file", whole, "-", []string{fmt.Sprintf("log:|%x", whole)}},
		{"a torn file", whole + rest, "-", []string{fmt.Sprintf("log:|%x", whole+rest), fmt.Sprintf("log:|%x", whole)}},
		{"a torn file and .new", whole + rest, "ab", []string{fmt.Sprintf("log:|%x log.new:|6162", whole+rest), fmt.Sprintf("log:|%x", whole+rest), fmt.Sprintf("log:|%x", whole)}},
		{"a file and .new", whole, "", []string{fmt.Sprintf("log:|%x log.new:|", whole), fmt.Sprintf("log:|%x", whole)}},
	} {
		for at := range len(c.want) + 1 {
			d := disk.New(much)
			if c.file != "-" {
				d.Append(log, []byte(c.file))
			}
			if c.beside != "-" {
				d.Append(fresh, []byte(c.beside))
			}
			before := d.Steps()
			d.Arm(at)
			s, code := logstore.Open(d, log)
			if at == len(c.want) {
				if s == nil || code != ok || d.Dead() || d.Steps() != before+at {
					t.Errorf("P15.2: %s: with %d steps Open = %d", c.name, at, code)
				}
				continue
			}
			if s != nil || code != isDead || d.Steps() != before+at+1 {
				t.Errorf("P15.2: %s: step %d fails: Open = %d after %d steps", c.name, at, code, d.Steps()-before)
			}
			is(t, fmt.Sprintf("P15.2: %s: step %d fails", c.name, at), files(d), c.want[at]+" ")
			still := look(d)
			if s, code := logstore.Open(d, log); s != nil || code != isDead {
				t.Errorf("P15.2: %s: on the dead disk Open = %d", c.name, code)
			}
			is(t, "P15.2: on the dead disk", look(d), still)
		}
	}
}

// TestOpenDead: on a dead disk the first thing that is wrong counts; a spoilt file is found without a step.
func TestOpenDead(t *testing.T) {
	for _, c := range []struct {
		what, name, file, beside string
		want                     api.Errno
	}{
		{"no file", log, "-", "-", isDead},
		{"a name that may not be", "a b", "-", "-", isDead},
		{"no name", "", "-", "-", isDead},
		{"a whole file", log, three[0], "-", isDead},
		{"a torn file", log, three[0] + "torn", "-", isDead},
		{"a spoilt file", log, three[0] + "spoilt!!", "-", spoilt},
		{"a spoilt file and .new", log, three[0] + "spoilt!!", "ab", isDead},
	} {
		d := disk.New(much)
		if c.file != "-" {
			d.Append(log, []byte(c.file))
		}
		if c.beside != "-" {
			d.Append(fresh, []byte(c.beside))
		}
		d.Arm(0)
		d.Append("x", nil)
		before := look(d)
		if s, code := logstore.Open(d, c.name); s != nil || code != c.want {
			t.Errorf("P15.2: on a dead disk with %s: %d, not %d", c.what, code, c.want)
		}
		is(t, "P15.2: on a dead disk with "+c.what, look(d), before)
	}
}

// TestOpenNames: names that the disk refuses, and such as it takes.
func TestOpenNames(t *testing.T) {
	for _, name := range []string{"", " ", "a b", "a ", "\x00", "\x7f", "\x80", "é", "log\n", strings.Repeat("a", maxFile+1), strings.Repeat("a", 200)} {
		d := disk.New(much)
		d.Append("other", []byte("x"))
		before := look(d)
		if s, code := logstore.Open(d, name); s != nil || code != badName {
			t.Errorf("P15.2: Open of %q: %d", name, code)
		}
		is(t, fmt.Sprintf("P15.2: after Open of %q", name), look(d), before)
	}
	for _, name := range []string{"a", "!", "~", ".new", "log.new", "a.new.new", strings.Repeat("a", 28), strings.Repeat("a", 29), strings.Repeat("a", maxFile)} {
		d := disk.New(much)
		s, code := logstore.Open(d, name)
		if s == nil || code != ok {
			t.Errorf("P15.2: Open of %q: %d", name, code)
			continue
		}
		is(t, fmt.Sprintf("P15.2: after Open of %q", name), look(d), fmt.Sprintf("%s:| free %d, steps 2", name, much))
		if code := s.Commit(batch(set("a", "1"))); code != ok {
			t.Errorf("P15.3: Commit with the file %q: %d", name, code)
		}
		if b, _ := d.Read(name); string(b) != framed(set("a", "1")) {
			t.Errorf("P15.3: the file %q has %x", name, b)
		}
		again, code := logstore.Open(d.Crash(nil), name)
		if code != ok {
			t.Errorf("P15.2: Open of %q again: %d", name, code)
			continue
		}
		is(t, "P15.2: opened again", tell(again), `"a"="1" size 18`)
	}
	// What the words of P15.2 say of the one name that may not be, while the name with .new behind it may.
	d := disk.New(much)
	d.Append(".new", []byte("x"))
	if s, code := logstore.Open(d, ""); s != nil || code != badName || len(d.Names()) != 0 {
		t.Errorf("P15.2: Open of no name beside .new: %d, files %q", code, d.Names())
	}
}

// TestOpenKeeps: the store writes to the disk that it was opened on, and stores on one disk with unlike names don't meet.
func TestOpenKeeps(t *testing.T) {
	d := disk.New(much)
	a, _ := logstore.Open(d, "a")
	b, _ := logstore.Open(d, "b")
	e := d.Clone()
	a.Commit(batch(set("k", "1")))
	b.Commit(batch(set("k", "2"), set("l", "3")))
	a.Commit(batch(set("m", "4")))
	b.Compact()
	is(t, "P15.2: the disk", look(d), fmt.Sprintf("a:%x| b:%x| free %d, steps 13", framed(set("k", "1"))+framed(set("m", "4")), framed(set("k", "2"))+framed(set("l", "3")), much-72))
	is(t, "P15.2: a clone of the disk", look(e), fmt.Sprintf("a:| b:| free %d, steps 4", much))
	is(t, "P15.2: one store", tell(a), `"k"="1" "m"="4" size 36`)
	is(t, "P15.2: another one", tell(b), `"k"="2" "l"="3" size 36`)
}
