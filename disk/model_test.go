package disk_test

import (
	"slices"

	"tollhouse/api"
)

// cell is a byte of a file, and whether every crash leaves it.
type cell struct {
	b     byte
	lasts bool
}

type record struct {
	name  string
	cells []cell
}

// model is a disk in the tests' own words: a list of records in any order, each byte of which says for itself whether it lasts; how many bytes there are is counted whenever that is asked, and the step that fails is known by its number.
type model struct {
	room    int
	records []record
	steps   int
	fails   uint64 // the number of the step that fails, from 1 on; 0 if none does
	dead    bool
}

func newModel(room int) *model {
	if room < 0 {
		room = 0
	}
	return &model{room: room}
}

func (m *model) place(name string) int {
	return slices.IndexFunc(m.records, func(r record) bool { return r.name == name })
}

func rightName(name string) bool {
	if len(name) == 0 || len(name) > maxFile {
		return false
	}
	for _, c := range []byte(name) {
		if c <= ' ' || c >= 0x7f {
			return false
		}
	}
	return true
}

// next counts a step and tells whether it succeeds.
func (m *model) next() bool {
	m.steps++
	m.dead = uint64(m.steps) == m.fails
	return !m.dead
}

func (m *model) Append(name string, b []byte) api.Errno {
	if m.dead {
		return isDead
	}
	if !rightName(name) {
		return badName
	}
	if len(b) > m.Free() {
		return isFull
	}
	alive := m.next()
	if m.place(name) < 0 {
		m.records = append(m.records, record{name: name})
	}
	r := &m.records[m.place(name)]
	for _, c := range b {
		r.cells = append(r.cells, cell{b: c})
	}
	if !alive {
		return isDead
	}
	return ok
}

func (m *model) Read(name string) ([]byte, bool) {
	i := m.place(name)
	if i < 0 {
		return nil, false
	}
	var b []byte
	for _, c := range m.records[i].cells {
		b = append(b, c.b)
	}
	return b, true
}

func (m *model) Sync(name string) api.Errno {
	i := m.place(name)
	if m.dead {
		return isDead
	}
	if i < 0 {
		return isNone
	}
	if !m.next() {
		return isDead
	}
	for j := range m.records[i].cells {
		m.records[i].cells[j].lasts = true
	}
	return ok
}

func (m *model) Truncate(name string, n int) api.Errno {
	i := m.place(name)
	if m.dead {
		return isDead
	}
	if i < 0 {
		return isNone
	}
	if n < 0 || len(m.records[i].cells) < n {
		return badRange
	}
	if !m.next() {
		return isDead
	}
	for len(m.records[i].cells) > n {
		m.records[i].cells = m.records[i].cells[:len(m.records[i].cells)-1]
	}
	return ok
}

func (m *model) Rename(from, to string) api.Errno {
	i, j := m.place(from), m.place(to)
	if m.dead {
		return isDead
	}
	if i < 0 {
		return isNone
	}
	if !rightName(to) {
		return badName
	}
	if !m.next() {
		return isDead
	}
	if i == j {
		return ok
	}
	m.records[i].name = to
	if j >= 0 {
		m.records = slices.Delete(m.records, j, j+1)
	}
	return ok
}

func (m *model) Remove(name string) api.Errno {
	i := m.place(name)
	if m.dead {
		return isDead
	}
	if i < 0 {
		return isNone
	}
	if !m.next() {
		return isDead
	}
	m.records = slices.Delete(m.records, i, i+1)
	return ok
}

func (m *model) Names() []string {
	var l []string
	for _, r := range m.records {
		l = append(l, r.name)
	}
	slices.Sort(l)
	return l
}

func (m *model) Free() int {
	free := m.room
	for _, r := range m.records {
		free -= len(r.cells)
	}
	return free
}

func (m *model) Steps() int { return m.steps }

func (m *model) Dead() bool { return m.dead }

func (m *model) Arm(at int) {
	switch {
	case m.dead:
	case at < 0:
		m.fails = 0
	default:
		m.fails = uint64(m.steps) + uint64(at) + 1
	}
}

func (m *model) Flip(name string, at, bit int) bool {
	i := m.place(name)
	if i < 0 || at < 0 || at >= len(m.records[i].cells) {
		return false
	}
	c := &m.records[i].cells[at]
	switch bit {
	case 0:
		c.b ^= 0x01
	case 1:
		c.b ^= 0x02
	case 2:
		c.b ^= 0x04
	case 3:
		c.b ^= 0x08
	case 4:
		c.b ^= 0x10
	case 5:
		c.b ^= 0x20
	case 6:
		c.b ^= 0x40
	case 7:
		c.b ^= 0x80
	default:
		return false
	}
	return true
}

func (m *model) crash(keep []int) machine {
	f := newModel(m.room)
	for i, name := range m.Names() {
		more := 0
		if i < len(keep) {
			more = keep[i]
		}
		r := record{name: name}
		for _, c := range m.records[m.place(name)].cells {
			if !c.lasts && more <= 0 {
				break
			}
			if !c.lasts {
				more--
			}
			r.cells = append(r.cells, cell{c.b, true})
		}
		f.records = append(f.records, r)
	}
	return f
}

func (m *model) clone() machine {
	c := *m
	c.records = nil
	for _, r := range m.records {
		c.records = append(c.records, record{r.name, slices.Clone(r.cells)})
	}
	return &c
}
