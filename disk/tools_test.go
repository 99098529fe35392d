package disk_test

import (
	"bytes"
	"encoding/hex"
	"fmt"
	"math"
	"strings"
	"testing"

	"tollhouse/api"
	"tollhouse/disk"
)

// The errors and the limit, as numbers: a test that took them from where the program does would not see other ones.
const (
	ok       = api.Errno(0)
	badName  = api.Errno(140)
	isFull   = api.Errno(141)
	isNone   = api.Errno(142)
	badRange = api.Errno(143)
	isDead   = api.Errno(144)
	maxFile  = 32
)

// far are numbers at both ends of what an int may be.
var far = []int{math.MinInt, math.MinInt + 1, math.MinInt32, math.MaxInt32, math.MaxInt - 1, math.MaxInt}

// machine is what both the program's disk and the tests' own one can do.
type machine interface {
	Append(name string, b []byte) api.Errno
	Read(name string) ([]byte, bool)
	Sync(name string) api.Errno
	Truncate(name string, n int) api.Errno
	Rename(from, to string) api.Errno
	Remove(name string) api.Errno
	Names() []string
	Free() int
	Steps() int
	Arm(at int)
	Dead() bool
	Flip(name string, at, bit int) bool
	crash(keep []int) machine
	clone() machine
}

type real struct{ *disk.Disk }

func (r real) crash(keep []int) machine { return real{r.Crash(keep)} }
func (r real) clone() machine           { return real{r.Clone()} }

// call is a call of one of the five operations (or of Arm or Flip), with how it is told.
type call struct {
	text string
	do   func(m machine) api.Errno
}

// add appends bytes that are told in digits.
func add(name, digits string) call {
	b := hexes(digits)
	return call{fmt.Sprintf("Append(%q, %s)", name, digits), func(m machine) api.Errno { return m.Append(name, bytes.Clone(b)) }}
}

func syn(name string) call {
	return call{fmt.Sprintf("Sync(%q)", name), func(m machine) api.Errno { return m.Sync(name) }}
}

func cut(name string, n int) call {
	return call{fmt.Sprintf("Truncate(%q, %d)", name, n), func(m machine) api.Errno { return m.Truncate(name, n) }}
}

func ren(from, to string) call {
	return call{fmt.Sprintf("Rename(%q, %q)", from, to), func(m machine) api.Errno { return m.Rename(from, to) }}
}

func rem(name string) call {
	return call{fmt.Sprintf("Remove(%q)", name), func(m machine) api.Errno { return m.Remove(name) }}
}

func arm(at int) call {
	return call{fmt.Sprintf("Arm(%d)", at), func(m machine) api.Errno { m.Arm(at); return ok }}
}

func flip(name string, at, bit int) call {
	return call{fmt.Sprintf("Flip(%q, %d, %d)", name, at, bit), func(m machine) api.Errno {
		if m.Flip(name, at, bit) {
			return ok
		}
		return -1
	}}
}

// hexes are bytes written in digits, with blanks between them wherever that helps.
func hexes(digits string) []byte {
	b, err := hex.DecodeString(strings.ReplaceAll(digits, " ", ""))
	if err != nil {
		panic(err)
	}
	return b
}

// after is a disk on which calls were done, whatever they answered.
func after(room int, calls ...call) *disk.Disk {
	d := disk.New(room)
	do(real{d}, calls...)
	return d
}

func do(m machine, calls ...call) []api.Errno {
	var l []api.Errno
	for _, c := range calls {
		l = append(l, c.do(m))
	}
	return l
}

func told(calls []call) string {
	var l []string
	for _, c := range calls {
		l = append(l, c.text)
	}
	return strings.Join(l, " ")
}

const patience = 9 // how many steps look waits for an armed disk to fail

// look tells all that can be seen of a disk: its files (the bytes that aren't durable stand behind a bar), the room that is free, the steps, and either that it is dead or behind how many further steps it will be.
func look(m machine) string {
	var l []string
	found := m.crash(nil)
	for _, name := range m.Names() {
		b, there := m.Read(name)
		lasts, left := found.Read(name)
		if !there || !left || !bytes.HasPrefix(b, lasts) {
			return fmt.Sprintf("%q: %x %v, and after a crash %x %v", name, b, there, lasts, left)
		}
		l = append(l, fmt.Sprintf("%s:%x|%x", name, b[:len(lasts)], b[len(lasts):]))
	}
	return strings.Join(append(l, fmt.Sprintf("free %d, steps %d%s", m.Free(), m.Steps(), fate(m))), " ")
}

func fate(m machine) string {
	if m.Dead() {
		return ", dead"
	}
	c := m.clone()
	for i := range patience {
		if c.Append("x", nil) == isDead {
			return fmt.Sprintf(", fails at %d", i)
		}
	}
	return ""
}

// sees fails unless a disk looks as it should.
func sees(t *testing.T, promise string, d *disk.Disk, want string, calls ...call) {
	t.Helper()
	if got := look(real{d}); got != want {
		t.Errorf("%s: after %s: %s, not %s", promise, told(calls), got, want)
	}
}
