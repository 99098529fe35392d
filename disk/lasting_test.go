package disk_test

import (
	"bytes"
	"fmt"
	"math/rand"
	"slices"
	"testing"

	"tollhouse/disk"
)

// drawn is a call that does something most of the time, and is refused sometimes.
func drawn(draw *rand.Rand) call {
	names := []string{"a", "b", "c", "aa", "B", "a b"}
	name := names[draw.Intn(len(names))]
	switch draw.Intn(9) {
	case 0, 1, 2, 3:
		b := make([]byte, draw.Intn(5))
		draw.Read(b)
		return add(name, fmt.Sprintf("%x", b))
	case 4, 5:
		return syn(name)
	case 6:
		return cut(name, draw.Intn(9)-1)
	case 7:
		return ren(name, names[draw.Intn(len(names))])
	}
	return rem(name)
}

// drawnKeep is what a crash leaves of the bytes that don't last.
func drawnKeep(draw *rand.Rand) []int {
	keep := make([]int, draw.Intn(7))
	for i := range keep {
		keep[i] = draw.Intn(8) - 1
	}
	return keep
}

// promised are the bytes that were synced, by the names of their files.
type promised map[string][]byte

// follow takes down what a call that was executed does with what was synced.
func (p promised) follow(c call, d *disk.Disk, name, to string, n int) {
	switch c.text[:3] {
	case "Syn":
		p[name], _ = d.Read(name)
	case "Tru":
		p[name] = p[name][:min(n, len(p[name]))]
	case "Ren":
		b := p[name]
		delete(p, name)
		p[to] = b
	case "Rem":
		delete(p, name)
	}
}

// lasts fails unless what was synced is found, and nothing that Read hadn't told.
func lasts(t *testing.T, d *disk.Disk, p promised, keep []int) {
	t.Helper()
	found := d.Crash(keep)
	if !slices.Equal(found.Names(), d.Names()) {
		t.Fatalf("P14.7: files %q, after a crash %q", d.Names(), found.Names())
	}
	for _, name := range found.Names() {
		b, _ := found.Read(name)
		all, _ := d.Read(name)
		if !bytes.HasPrefix(b, p[name]) || !bytes.HasPrefix(all, b) {
			t.Fatalf("P14.7: Crash(%d): %s has %x, was %x, of which %x was synced", keep, name, b, all, p[name])
		}
	}
	for name, b := range p {
		if got, there := found.Read(name); !there || !bytes.HasPrefix(got, b) {
			t.Fatalf("P14.7: Crash(%d): %s was synced with %x and has %x, %v", keep, name, b, got, there)
		}
	}
}

// TestLasting crashes behind every step of long sequences of calls, in several ways each time.
func TestLasting(t *testing.T) {
	draw := rand.New(rand.NewSource(147))
	for range 60 {
		d, p := disk.New(40), promised{}
		for range 120 {
			name, to, n := []string{"a", "b", "c", "d"}[draw.Intn(4)], []string{"a", "b", "c", "d"}[draw.Intn(4)], draw.Intn(10)
			b := make([]byte, draw.Intn(6))
			draw.Read(b)
			c := []call{add(name, fmt.Sprintf("%x", b)), add(name, fmt.Sprintf("%x", b)), add(name, fmt.Sprintf("%x", b)), syn(name), syn(name), cut(name, n), ren(name, to), rem(name)}[draw.Intn(8)]
			if c.do(real{d}) == ok {
				p.follow(c, d, name, to, n)
			}
			lasts(t, d, p, nil)
			lasts(t, d, p, []int{9, 9, 9, 9})
			for range 3 {
				lasts(t, d, p, drawnKeep(draw))
			}
		}
	}
}

// TestLastingFailure lets the disk fail at each step of a sequence: what was synced before is found, and what that step was to do away with, too.
func TestLastingFailure(t *testing.T) {
	draw := rand.New(rand.NewSource(148))
	names := []string{"a", "b", "c", "d"}
	for at := range 80 {
		d, p := disk.New(40), promised{}
		d.Arm(at)
		for !d.Dead() {
			name, to, n := names[draw.Intn(4)], names[draw.Intn(4)], draw.Intn(10)
			b := make([]byte, draw.Intn(6))
			draw.Read(b)
			c := []call{add(name, fmt.Sprintf("%x", b)), add(name, fmt.Sprintf("%x", b)), syn(name), syn(name), cut(name, n), ren(name, to), rem(name)}[draw.Intn(7)]
			if c.do(real{d}) == ok {
				p.follow(c, d, name, to, n)
			}
		}
		if d.Steps() != at+1 {
			t.Fatalf("P14.4: Arm(%d): the disk died after %d steps", at, d.Steps())
		}
		for range 10 {
			lasts(t, d, p, drawnKeep(draw))
		}
	}
}

// TestLastingAgain: what was found lasts as well, crash after crash.
func TestLastingAgain(t *testing.T) {
	draw := rand.New(rand.NewSource(149))
	d := disk.New(200)
	for range 300 {
		for range 5 {
			drawn(draw).do(real{d})
		}
		d = d.Crash(drawnKeep(draw))
		p := promised{}
		for _, name := range d.Names() {
			p[name], _ = d.Read(name)
		}
		lasts(t, d, p, nil)
		lasts(t, d, p, drawnKeep(draw))
	}
}
