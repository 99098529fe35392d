package logstore_test

import (
	"bytes"
	"encoding/binary"
	"encoding/hex"
	"fmt"
	"hash/crc32"
	"iter"
	"strings"
	"testing"

	"tollhouse/api"
	"tollhouse/disk"
	"tollhouse/logstore"
)

// The errors and the limits, as numbers: a test that took them from where the program does would not see other ones.
const (
	ok       = api.Errno(0)
	badName  = api.Errno(140)
	isFull   = api.Errno(141)
	isNone   = api.Errno(142)
	isDead   = api.Errno(144)
	badKey   = api.Errno(150)
	badValue = api.Errno(151)
	tooMany  = api.Errno(152)
	spoilt   = api.Errno(153)

	maxKey   = 64
	maxItem  = 1048576
	maxBatch = 4096
	maxFrame = 16777216
	maxFile  = 32
)

const (
	log   = "log"
	fresh = "log.new"
	much  = 1 << 30 // room that is never too little
)

// keeper is what both the program's store and the tests' own one can do.
type keeper interface {
	Commit(l []api.Change) api.Errno
	Get(key []byte) ([]byte, bool)
	Len() int
	From(prefix []byte) iter.Seq2[string, []byte]
	Compact() api.Errno
	Size() int
}

// set and drop are changes; a batch is some of them.
func set(key, value string) api.Change {
	return api.Change{Key: []byte(key), Value: []byte(value)}
}

func drop(key string) api.Change {
	return api.Change{Key: []byte(key), Drop: true}
}

func batch(l ...api.Change) []api.Change { return l }

// hexes are bytes written in digits, with blanks between them wherever that helps.
func hexes(digits string) []byte {
	b, err := hex.DecodeString(strings.ReplaceAll(digits, " ", ""))
	if err != nil {
		panic(err)
	}
	return b
}

// variable is a Var in the tests' own words.
func variable(n int) []byte {
	switch {
	case n < 253:
		return []byte{byte(n)}
	case n < 65536:
		return append([]byte{253}, binary.BigEndian.AppendUint16(nil, uint16(n))...)
	}
	return append([]byte{254}, binary.BigEndian.AppendUint32(nil, uint32(n))...)
}

func text(s string) string { return string(variable(len(s))) + s }

// bodyOf is the body of a batch in the tests' own words, whether there may be such a batch or not.
func bodyOf(l ...api.Change) string {
	b := string(variable(len(l)))
	for _, c := range l {
		if c.Drop {
			b += "\x00" + text(string(c.Key))
		} else {
			b += "\x01" + text(string(c.Key)) + text(string(c.Value))
		}
	}
	return b
}

// sums is a text's checksum as four bytes, by the library.
func sums(s string) string {
	return string(binary.BigEndian.AppendUint32(nil, crc32.ChecksumIEEE([]byte(s))))
}

// headOf is what stands in front of a body of so many bytes.
func headOf(n int) string {
	length := string(binary.BigEndian.AppendUint32(nil, uint32(n)))
	return length + sums(length)
}

// around is the frame of a body, whatever body that is.
func around(body string) string { return headOf(len(body)) + body + sums(body) }

// framed is the frame of some changes.
func framed(l ...api.Change) string { return around(bodyOf(l...)) }

// holding is a disk with a file log that has some bytes, all of which last.
func holding(file string) *disk.Disk {
	d := disk.New(much)
	if d.Append(log, []byte(file)) != ok || d.Sync(log) != ok {
		panic("the disk has too little room")
	}
	return d
}

// opened is a store on a disk that opens.
func opened(t *testing.T, d *disk.Disk) *logstore.Store {
	t.Helper()
	s, code := logstore.Open(d, log)
	if code != ok || s == nil {
		t.Fatalf("P15.2: Open of %s: %d", look(d), code)
	}
	return s
}

// filled is a new disk with a store, on which batches were committed.
func filled(t *testing.T, batches ...[]api.Change) (*disk.Disk, *logstore.Store) {
	t.Helper()
	d := disk.New(much)
	s := opened(t, d)
	for _, l := range batches {
		if code := s.Commit(l); code != ok {
			t.Fatalf("P15.3: Commit(%s) = %d", spell(l), code)
		}
	}
	return d, s
}

// spell tells changes in short.
func spell(l []api.Change) string {
	var words []string
	for i, c := range l {
		switch {
		case i == 8:
			words = append(words, fmt.Sprintf("and %d more", len(l)-i))
		case i > 8:
		case c.Drop:
			words = append(words, "-"+short(string(c.Key)))
		default:
			words = append(words, short(string(c.Key))+"="+short(string(c.Value)))
		}
	}
	return strings.Join(words, " ")
}

// short is a text in digits, or, where it is long, its length and checksum.
func short(s string) string {
	if len(s) > 200 {
		return fmt.Sprintf("(%d bytes, %x)", len(s), sums(s))
	}
	return fmt.Sprintf("%q", s)
}

// tell tells all that can be seen of a store, and complains where it contradicts itself.
func tell(s keeper) string {
	var l []string
	last := ""
	for key, value := range s.From(nil) {
		if key <= last {
			return fmt.Sprintf("%q behind %q", key, last)
		}
		last = key
		if got, there := s.Get([]byte(key)); !there || !bytes.Equal(got, value) {
			return fmt.Sprintf("From tells %q of %q, Get %q, %v", value, key, got, there)
		}
		l = append(l, short(key)+"="+short(string(value)))
	}
	if s.Len() != len(l) {
		return fmt.Sprintf("From tells %d keys, Len %d", len(l), s.Len())
	}
	return strings.Join(append(l, fmt.Sprintf("size %d", s.Size())), " ")
}

// look tells all that can be seen of a disk: its files (the bytes that a crash may take stand behind a bar), the room that is free, the steps, and whether it is dead.
func look(d *disk.Disk) string {
	text := fmt.Sprintf("%sfree %d, steps %d", files(d), d.Free(), d.Steps())
	if d.Dead() {
		text += ", dead"
	}
	return text
}

// files tells the files of a disk alone.
func files(d *disk.Disk) string {
	text := ""
	found := d.Crash(nil)
	for _, name := range d.Names() {
		b, _ := d.Read(name)
		lasts, _ := found.Read(name)
		text += fmt.Sprintf("%s:%s|%s ", name, bare(b[:len(lasts)]), bare(b[len(lasts):]))
	}
	return text
}

func bare(b []byte) string {
	if len(b) > 400 {
		return short(string(b))
	}
	return hex.EncodeToString(b)
}

// fileOf is what a disk's file log has.
func fileOf(d *disk.Disk) string {
	b, _ := d.Read(log)
	return string(b)
}

// is fails unless two texts are the same.
func is(t *testing.T, what, got, want string) {
	t.Helper()
	if got != want {
		t.Errorf("%s: %s, not %s", what, got, want)
	}
}

// twice fails unless a store is as it should be, and so is the one that is opened on the disk that a crash would leave now.
func twice(t *testing.T, promise string, s keeper, d *disk.Disk, want string) {
	t.Helper()
	is(t, promise, tell(s), want)
	is(t, promise+", opened again", tell(opened(t, d.Crash(nil))), want)
}
