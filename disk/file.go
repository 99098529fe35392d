package disk

import (
	"bytes"
	"iter"
	"maps"
	"slices"
	"strings"

	"tollhouse/api"
)

// The bytes that a valid file name is made of: those that can be seen in print.
const (
	lowest  = 33
	highest = 126
)

// file has bytes, of which the first ones are durable. Its bytes belong to one disk alone, which may change them where they are.
type file struct {
	bytes   []byte
	durable int
}

// first is the same file with no more than its first n bytes.
func (f file) first(n int) file {
	return file{f.bytes[:n], min(f.durable, n)}
}

// copied is the same file for another disk.
func (f file) copied() file {
	return file{bytes.Clone(f.bytes), f.durable}
}

func valid(name string) bool {
	for i := range len(name) {
		if name[i] < lowest || name[i] > highest {
			return false
		}
	}
	return name != "" && len(name) <= api.MaxFile
}

// find is where all begins that needs a file.
func (d *Disk) find(name string) (file, api.Errno) {
	f, ok := d.files[name]
	switch {
	case d.dead:
		return file{}, api.ErrDiskDead
	case !ok:
		return file{}, api.ErrDiskNone
	}
	return f, api.OK
}

// step counts a step, and tells ErrDiskDead if it is the one at which the disk fails.
func (d *Disk) step() api.Errno {
	d.steps++
	switch {
	case d.left == 0:
		d.dead = true
		return api.ErrDiskDead
	case d.left > 0:
		d.left--
	}
	return api.OK
}

// put gives a file a name, in the place of the one that has it. The name is copied, as it may be a piece of a text that is far longer.
func (d *Disk) put(name string, f file) {
	d.drop(name)
	d.files[strings.Clone(name)] = f
	d.used += len(f.bytes)
}

func (d *Disk) drop(name string) {
	d.used -= len(d.files[name].bytes)
	delete(d.files, name)
}

// inOrder goes through the files by ascending names: a map's own order must not be seen in what is told.
func (d *Disk) inOrder() iter.Seq2[string, file] {
	return func(yield func(string, file) bool) {
		for _, name := range slices.Sorted(maps.Keys(d.files)) {
			if !yield(name, d.files[name]) {
				return
			}
		}
	}
}
