package logstore_test

import (
	"iter"
	"slices"
	"strings"

	"tollhouse/api"
	"tollhouse/disk"
	"tollhouse/logstore"
)

type pair struct{ key, value string }

// ledger is a store in the tests' own words: a list of pairs, sorted whenever it is told; a body may stand in a file if what it says, written again, is the same body.
type ledger struct {
	d     *disk.Disk
	name  string
	pairs []pair
	size  int
}

func openReal(d *disk.Disk, name string) (keeper, api.Errno) {
	s, code := logstore.Open(d, name)
	if s == nil {
		return nil, code
	}
	return s, code
}

func openLedger(d *disk.Disk, name string) (keeper, api.Errno) {
	g := &ledger{d: d, name: name}
	if e := g.sweep(); e != ok {
		return nil, e
	}
	if !slices.Contains(d.Names(), name) {
		if e := d.Append(name, []byte{}); e != ok {
			return nil, e
		}
	}
	b, _ := d.Read(name)
	file := string(b)
	for file != "" {
		l, n, e := firstFrame(file)
		if e != ok {
			return nil, e
		}
		if n == 0 {
			if e := d.Truncate(name, g.size); e != ok {
				return nil, e
			}
			break
		}
		g.change(l)
		g.size += n
		file = file[n:]
	}
	if e := d.Sync(name); e != ok {
		return nil, e
	}
	return g, ok
}

func (g *ledger) sweep() api.Errno {
	if slices.Contains(g.d.Names(), g.name+".new") {
		return g.d.Remove(g.name + ".new")
	}
	return ok
}

// firstFrame tells the changes of the frame that a text begins with, and its length: 0 if it is torn.
func firstFrame(text string) ([]api.Change, int, api.Errno) {
	if len(text) < 8 {
		return nil, 0, ok
	}
	n := 0
	for _, c := range []byte(text[:4]) {
		n = n*256 + int(c)
	}
	if headOf(n) != text[:8] {
		return nil, 0, spoilt
	}
	if len(text) < 8+n+4 {
		return nil, 0, ok
	}
	l, right := apart(text[8 : 8+n])
	if text[:8+n+4] != around(text[8:8+n]) || !right || wrong(l) != ok {
		return nil, 0, spoilt
	}
	return l, 8 + n + 4, ok
}

// apart takes a body apart, however its numbers are written, and writes it again.
func apart(body string) ([]api.Change, bool) {
	rest, good := body, true
	number := func() int {
		if rest == "" {
			good = false
			return 0
		}
		n, more := int(rest[0]), 0
		rest = rest[1:]
		if n >= 253 {
			more, n = 2<<(n-253), 0
		}
		for range more {
			if rest == "" || n > 1<<40 {
				good = false
				return 0
			}
			n, rest = n<<8|int(rest[0]), rest[1:]
		}
		return n
	}
	word := func() []byte {
		n := number()
		if n > len(rest) {
			good = false
			return nil
		}
		w := rest[:n]
		rest = rest[n:]
		return []byte(w)
	}
	var l []api.Change
	for n := number(); good && n > 0; n-- {
		switch kind := number(); kind {
		case 0:
			l = append(l, api.Change{Key: word(), Drop: true})
		case 1:
			l = append(l, api.Change{Key: word(), Value: word()})
		default:
			good = false
		}
	}
	return l, good && bodyOf(l...) == body
}

// wrong is what Frame says against changes, but for how long they are together.
func wrong(l []api.Change) api.Errno {
	if len(l) > maxBatch {
		return tooMany
	}
	for _, c := range l {
		if len(c.Key) < 1 || len(c.Key) > maxKey {
			return badKey
		}
		if len(c.Value) > maxItem && !c.Drop {
			return badValue
		}
	}
	return ok
}

func (g *ledger) change(l []api.Change) {
	for _, c := range l {
		g.pairs = slices.DeleteFunc(g.pairs, func(p pair) bool { return p.key == string(c.Key) })
		if !c.Drop {
			g.pairs = append(g.pairs, pair{string(c.Key), string(c.Value)})
		}
	}
}

func (g *ledger) Commit(l []api.Change) api.Errno {
	if e := wrong(l); e != ok {
		return e
	}
	if len(bodyOf(l...)) > maxFrame {
		return tooMany
	}
	if len(l) == 0 {
		return ok
	}
	f := framed(l...)
	if e := g.d.Append(g.name, []byte(f)); e != ok {
		return e
	}
	if e := g.d.Sync(g.name); e != ok {
		return e
	}
	g.change(l)
	g.size += len(f)
	return ok
}

func (g *ledger) Get(key []byte) ([]byte, bool) {
	for _, p := range g.pairs {
		if p.key == string(key) {
			return []byte(p.value), true
		}
	}
	return nil, false
}

func (g *ledger) Len() int { return len(g.pairs) }

// sorted are the pairs by ascending keys.
func (g *ledger) sorted() []pair {
	l := slices.Clone(g.pairs)
	slices.SortFunc(l, func(a, b pair) int { return strings.Compare(a.key, b.key) })
	return l
}

func (g *ledger) From(prefix []byte) iter.Seq2[string, []byte] {
	first := string(prefix)
	return func(yield func(string, []byte) bool) {
		for _, p := range g.sorted() {
			if len(p.key) >= len(first) && p.key[:len(first)] == first && !yield(p.key, []byte(p.value)) {
				return
			}
		}
	}
}

func (g *ledger) Compact() api.Errno {
	all := g.needed()
	if e := g.sweep(); e != ok {
		return e
	}
	if e := g.d.Append(g.name+".new", []byte(all)); e != ok {
		return e
	}
	if e := g.d.Sync(g.name + ".new"); e != ok {
		return e
	}
	if e := g.d.Rename(g.name+".new", g.name); e != ok {
		return e
	}
	g.size = len(all)
	return ok
}

// needed are the frames that tell no more than what is.
func (g *ledger) needed() string {
	all := ""
	for _, p := range g.sorted() {
		all += framed(set(p.key, p.value))
	}
	return all
}

func (g *ledger) Size() int { return g.size }
