package logstore_test

import (
	"bytes"
	"crypto/sha256"
	"encoding/hex"
	"fmt"
	"math/rand"
	"slices"
	"strings"
	"testing"

	"tollhouse/api"
	"tollhouse/logstore"
)

// TestFrame holds frames against such as another program worked out.
func TestFrame(t *testing.T) {
	for _, c := range []struct {
		l    []api.Change
		want string
	}{
		{nil, "00000001 5643ef8a 00 d202ef8d"},
		{batch(), "00000001 5643ef8a 00 d202ef8d"},
		{batch(set("a", "1")), "00000006 c8277a29 01 01 0161 0131 fe92acbf"},
		{batch(set("a", "")), "00000005 512e2b93 01 01 0161 00 3eda8919"},
		{batch(api.Change{Key: []byte("a")}), "00000005 512e2b93 01 01 0161 00 3eda8919"},
		{batch(drop("a")), "00000004 26291b05 01 00 0161 ba56d8f6"},
		{batch(set("a", "2"), set("b", "3")), "0000000b b6960694 02 01 0161 0132 01 0162 0133 50927bab"},
		{batch(drop("a"), drop("c")), "00000007 bf204abf 02 00 0161 00 0163 79a97622"},
		{batch(set("\x00", "\xff\x00"), drop("\x00"), set("\x00\x00", "tollhouse")), "00000018 3228474a 03 01 0100 02ff00 00 0100 01 020000 09746f6c6c686f757365 85779da0"},
	} {
		b, code := logstore.Frame(c.l)
		if !bytes.Equal(b, hexes(c.want)) || code != ok {
			t.Errorf("P15.1: Frame(%s) = %x, %d", spell(c.l), b, code)
		}
	}
}

// counted are so many changes, all of unlike keys.
func counted(n int, one func(key string, i int) api.Change) []api.Change {
	var l []api.Change
	for i := range n {
		l = append(l, one(string([]byte{0, 0, byte(i >> 8), byte(i)}), i))
	}
	return l
}

// TestFrameLong holds frames in which a number has more than one byte against such as another program worked out, by their beginnings, ends and digests.
func TestFrameLong(t *testing.T) {
	bytewise := func(n int) []api.Change {
		var l []api.Change
		for i := range n {
			l = append(l, drop(string([]byte{byte(i)})))
		}
		return l
	}
	for _, c := range []struct {
		l                   []api.Change
		size                int
		begins, ends, whole string
	}{
		{batch(set(strings.Repeat("k", 64), strings.Repeat("v", 252))), 332, "000001404e83afcd0101406b6b6b", "4f41bd9c", "ad50cdf852cae3024b6621e138c8cefbcde286c37f36ef99b458fe075b843d59"},
		{batch(set(strings.Repeat("k", 64), strings.Repeat("v", 253))), 335, "00000143d78afe770101406b6b6b", "d934b299", "e1178cde322d754f61fbf873c4d82e29218dad9fbd67390c0786a5ac401c0f26"},
		{batch(set("k", strings.Repeat("v", 65535))), 65554, "00010006c9e5101e0101016bfdff", "9e93e6f9", "6bf6b32e33e8a618f293624ef33060d8a20c10dfe647c9ba09b1d0ac75310c9e"},
		{batch(set("k", strings.Repeat("v", 65536))), 65557, "00010009595a0d8f0101016bfe00", "aaacef61", "515861f04544a2158043aa08bce20ccd2a476dc1b102137d7ed70e191860d66a"},
		{batch(set("k", strings.Repeat("v", maxItem))), 1048597, "0010000944bec4c80101016bfe00", "ba766377", "8b4032829679242e18da8f95cd45cd703bf90f4bb46e426a026eb00fc61915d8"},
		{bytewise(252), 769, "000002f5dea5bb0dfc0001000001", "ef6bc47c", "df918d27eb2f7560921f0da297a2034f4b013b42019d3f6c203b9ecbe59a5943"},
		{bytewise(253), 774, "000002fa4e1aa69cfd00fd000100", "1fe54ffe", "b4c724e4a500fc40e6a4fd5e9238bacccd4951506c361b88b358f48aa5c890a6"},
		{counted(maxBatch, func(key string, i int) api.Change { return set(key, string([]byte{byte(i >> 8), byte(i)})) }), 36879, "00009003c90c04bcfd1000010400", "835f1b0d", "27d640f91465f8c615843d9efcdb559f2820e446767a0d0e3456408f4326eac5"},
	} {
		b, code := logstore.Frame(c.l)
		digest := sha256.Sum256(b)
		if len(b) != c.size || code != ok {
			t.Errorf("P15.1: Frame(%s) has %d bytes, %d", spell(c.l), len(b), code)
			continue
		}
		if hex.EncodeToString(b[:14]) != c.begins || hex.EncodeToString(b[len(b)-4:]) != c.ends || hex.EncodeToString(digest[:]) != c.whole {
			t.Errorf("P15.1: Frame(%s) = %x..%x with the digest %x", spell(c.l), b[:14], b[len(b)-4:], digest)
		}
	}
}

// drops is for counted: a change that drops a key.
func drops(key string, i int) api.Change { return drop(key) }

// refuses fails unless Frame answers an error and nothing else.
func refuses(t *testing.T, what string, l []api.Change, want api.Errno) {
	t.Helper()
	if b, code := logstore.Frame(l); len(b) != 0 || code != want {
		t.Errorf("P15.1: Frame of %s: %d bytes, %d, not %d", what, len(b), code, want)
	}
}

// accepts fails unless Frame answers the frame that the tests' own words have.
func accepts(t *testing.T, what string, l []api.Change) {
	t.Helper()
	if b, code := logstore.Frame(l); string(b) != framed(l...) || code != ok {
		t.Errorf("P15.1: Frame of %s: %d bytes, %d", what, len(b), code)
	}
}

// TestFrameLimits: what just may be, and what may not.
func TestFrameLimits(t *testing.T) {
	key := func(n int) string { return strings.Repeat("k", n) }
	value := func(n int) string { return strings.Repeat("v", n) }
	for n := 1; n <= maxKey; n++ {
		accepts(t, fmt.Sprint("a key of ", n), batch(set(key(n), "v"), drop(key(n))))
	}
	for _, n := range []int{0, maxKey + 1, maxKey + 2, 252, 253, 65536} {
		refuses(t, fmt.Sprint("a key of ", n), batch(set(key(n), "v")), badKey)
		refuses(t, fmt.Sprint("a dropped key of ", n), batch(drop(key(n))), badKey)
	}
	refuses(t, "a nil key", batch(api.Change{Value: []byte("v")}), badKey)
	refuses(t, "a dropped nil key", batch(api.Change{Drop: true}), badKey)

	accepts(t, "a value of MaxLogItem", batch(set("k", value(maxItem))))
	refuses(t, "a value of one more", batch(set("k", value(maxItem+1))), badValue)
	refuses(t, "a value of far more", batch(set("k", value(2*maxItem))), badValue)

	accepts(t, "MaxBatch changes", counted(maxBatch, drops))
	refuses(t, "MaxBatch changes and one", counted(maxBatch+1, drops), tooMany)
	refuses(t, "twice as many", counted(2*maxBatch, drops), tooMany)
	refuses(t, "MaxBatch empty changes", make([]api.Change, maxBatch), badKey)
	refuses(t, "one empty change more", make([]api.Change, maxBatch+1), tooMany)
}

// TestFrameOrder: which of several errors counts.
func TestFrameOrder(t *testing.T) {
	noKey, longKey := set("", "v"), set(strings.Repeat("k", maxKey+1), "v")
	longValue, both := set("k", strings.Repeat("v", maxItem+1)), set("", strings.Repeat("v", maxItem+1))
	good := set("a", "1")
	for _, c := range []struct {
		what string
		l    []api.Change
		want api.Errno
	}{
		{"a change that has both defects", batch(both), badKey},
		{"a wrong key ahead of a wrong value", batch(noKey, longValue), badKey},
		{"a wrong value ahead of a wrong key", batch(longValue, noKey), badValue},
		{"a long key ahead of a wrong value", batch(good, longKey, longValue), badKey},
		{"a wrong value ahead of a long key", batch(good, longValue, good, longKey), badValue},
		{"a wrong value ahead of both defects", batch(longValue, both), badValue},
		{"a wrong change behind a good one", batch(good, drop("b"), noKey), badKey},
		{"a wrong value at the end", batch(good, drop("b"), longValue), badValue},
		{"a wrong key in the last of MaxBatch", append(counted(maxBatch-1, drops), noKey), badKey},
		{"too many changes, the first of them wrong", append(batch(both), counted(maxBatch, drops)...), tooMany},
	} {
		refuses(t, c.what, c.l, c.want)
	}
}

// heavy is a batch whose body has so many bytes, around MaxFrame.
func heavy(size int) []api.Change {
	long := strings.Repeat("v", maxItem)
	var l []api.Change
	for i := range 15 {
		l = append(l, set(string(rune('a'+i)), long))
	}
	// The number of changes has one byte, and a change with a key of one byte and a long value eight beside the value.
	return append(l, set("z", long[:size-1-15*(maxItem+8)-8]))
}

// TestFrameHeavy: a body of MaxFrame bytes, and of one more.
func TestFrameHeavy(t *testing.T) {
	for _, size := range []int{maxFrame - 1, maxFrame} {
		l := heavy(size)
		if got := len(bodyOf(l...)); got != size {
			t.Fatalf("the test's body has %d bytes, not %d", got, size)
		}
		accepts(t, fmt.Sprint("a body of ", size), l)
	}
	refuses(t, "a body of MaxFrame and one", heavy(maxFrame+1), tooMany)
	refuses(t, "a body of MaxFrame and two", heavy(maxFrame+2), tooMany)
	refuses(t, "a long body with a wrong key at its end", append(heavy(maxFrame+1), set("", "")), badKey)
	refuses(t, "a long body with a wrong value at its end", append(heavy(maxFrame+1), set("k", strings.Repeat("v", maxItem+1))), badValue)
	refuses(t, "a body that is too long ahead of its last change", append(heavy(maxFrame+1), drop("k")), tooMany)
	for _, room := range []int{0, 1, 2} {
		refuses(t, "a body that the last change makes too long", append(heavy(maxFrame-room), drop("k")), tooMany)
		refuses(t, "a body that the last two changes make too long", append(heavy(maxFrame-room), drop("k"), drop("l")), tooMany)
	}
	accepts(t, "a body that the last change makes just MaxFrame", append(heavy(maxFrame-3), drop("k")))
	longest := heavy(maxFrame)[0]
	refuses(t, "MaxBatch times the longest value", slices.Repeat(batch(longest), maxBatch), tooMany)
}

// TestFrameDrop: the Value of a change with Drop is ignored, whatever it is.
func TestFrameDrop(t *testing.T) {
	want := framed(set("a", "1"), drop("b"))
	for _, n := range []int{0, 1, 2, 253, maxItem, maxItem + 1, 2 * maxItem} {
		l := batch(set("a", "1"), api.Change{Key: []byte("b"), Value: make([]byte, n), Drop: true})
		if b, code := logstore.Frame(l); string(b) != want || code != ok {
			t.Errorf("P15.1: Frame of a dropped key with a value of %d bytes: %x, %d", n, b, code)
		}
	}
	many := make([]api.Change, maxBatch)
	for i := range many {
		many[i] = api.Change{Key: []byte("b"), Value: make([]byte, 5000), Drop: true}
	}
	accepts(t, "many dropped keys with values", many)
}

// drawnBatch is a batch that Frame accepts.
func drawnBatch(draw *rand.Rand, most int) []api.Change {
	var l []api.Change
	for range draw.Intn(most + 1) {
		c := api.Change{Key: drawnBytes(draw, 1+draw.Intn(maxKey)), Drop: draw.Intn(3) == 0}
		if draw.Intn(2) == 0 {
			c.Key = c.Key[:1]
		}
		switch draw.Intn(8) {
		case 0:
		case 1:
			c.Value = drawnBytes(draw, 250+draw.Intn(6))
		default:
			c.Value = drawnBytes(draw, draw.Intn(10))
		}
		l = append(l, c)
	}
	return l
}

// TestFrameDrawn holds drawn batches against the tests' own words.
func TestFrameDrawn(t *testing.T) {
	draw := rand.New(rand.NewSource(1512))
	for range 3000 {
		accepts(t, "a drawn batch", drawnBatch(draw, 12))
	}
	for range 20 {
		accepts(t, "a long drawn batch", drawnBatch(draw, 1000))
	}
}
