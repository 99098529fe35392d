package script

import (
	"bytes"

	"tollhouse/api"
	"tollhouse/sha"
	"tollhouse/sig"
)

// machine executes the operations of one program, which has the right form.
type machine struct {
	stack   [][]byte // the last one on top
	message api.Digest
	height  uint64
	rest    []byte // of the operation that is executed
	skipped int    // how many OpIfs are open, from the one on of which a branch is skipped; 0: none is skipped
}

// effect makes the elements that an operation pushes out of those that it pops, the top one last in both.
type effect func(l [][]byte) ([][]byte, api.Errno)

// run executes all operations, and looks at what they have left.
func (m *machine) run(l []operation) api.Errno {
	for _, op := range l {
		if m.skipped > 0 {
			m.skip(op.code)
		} else if e := m.step(op); e != api.OK {
			return e
		}
	}
	if len(m.stack) != 1 || !truth(m.stack[0]) {
		return api.ErrScriptFalse
	}
	return api.OK
}

// skip passes an operation of a branch that is skipped: it only has to be known where the branch ends.
func (m *machine) skip(code byte) {
	switch {
	case code == api.OpIf:
		m.skipped++
	case code == api.OpEnd:
		m.skipped--
	case code == api.OpElse && m.skipped == 1:
		// The branch behind it is the other one: had that been executed, this would be a second OpElse.
		m.skipped = 0
	}
}

// step executes one operation. It is the only one that pops and pushes, so that none forgets how high the stack is.
func (m *machine) step(op operation) api.Errno {
	m.rest = op.rest
	needs, does := m.choose(op.code)
	left := len(m.stack) - needs
	if left < 0 {
		return api.ErrScriptStack
	}
	l, e := does(m.stack[left:])
	if e != api.OK {
		return e
	}
	m.stack = append(m.stack[:left], l...)
	if len(m.stack) > api.MaxStack {
		return api.ErrScriptStack
	}
	return api.OK
}

// choose tells how many elements an operation pops, and its effect.
func (m *machine) choose(code byte) (int, effect) {
	switch {
	case code <= api.MaxPush:
		return 0, m.push
	case code == api.OpVerify:
		return 1, m.verify
	case code == api.OpNot:
		return 1, m.not
	case code == api.OpEqual:
		return 2, m.equal
	case code == api.OpDup:
		return 1, m.dup
	case code == api.OpDrop:
		return 1, m.drop
	case code == api.OpSwap:
		return 2, m.swap
	case code == api.OpHash:
		return 1, m.hash
	case code == api.OpSig:
		return 2, m.sig
	case code == api.OpShare:
		return 2 * int(m.rest[1]), m.share
	case code == api.OpAfter:
		return 1, m.after
	case code == api.OpIf:
		return 1, m.branch
	case code == api.OpElse:
		return 0, m.other
	}
	return 0, m.end
}

func (m *machine) push([][]byte) ([][]byte, api.Errno) { return [][]byte{m.rest}, api.OK }

func (m *machine) verify(l [][]byte) ([][]byte, api.Errno) {
	if !truth(l[0]) {
		return nil, api.ErrScriptVerify
	}
	return nil, api.OK
}

func (m *machine) not(l [][]byte) ([][]byte, api.Errno) { return result(!truth(l[0])) }

func (m *machine) equal(l [][]byte) ([][]byte, api.Errno) { return result(bytes.Equal(l[0], l[1])) }

func (m *machine) dup(l [][]byte) ([][]byte, api.Errno) { return [][]byte{l[0], l[0]}, api.OK }

func (m *machine) drop([][]byte) ([][]byte, api.Errno) { return nil, api.OK }

func (m *machine) swap(l [][]byte) ([][]byte, api.Errno) { return [][]byte{l[1], l[0]}, api.OK }

func (m *machine) hash(l [][]byte) ([][]byte, api.Errno) {
	d := sha.Of(l[0])
	return [][]byte{d[:]}, api.OK
}

func (m *machine) sig(l [][]byte) ([][]byte, api.Errno) { return result(m.signed(l[0], l[1])) }

// share counts the signatures. A place without one is left empty, so that each signature is held against one key alone.
func (m *machine) share(l [][]byte) ([][]byte, api.Errno) {
	least, many := int(m.rest[0]), int(m.rest[1])
	given := 0
	for i, s := range l[:many] {
		if len(s) == 0 {
			continue
		}
		if !m.signed(s, l[many+i]) {
			return result(false)
		}
		given++
	}
	return result(given >= least)
}

func (m *machine) after(l [][]byte) ([][]byte, api.Errno) {
	if len(l[0]) > 8 || m.height < number(l[0]) {
		return nil, api.ErrScriptEarly
	}
	return nil, api.OK
}

func (m *machine) branch(l [][]byte) ([][]byte, api.Errno) {
	if !truth(l[0]) {
		m.skipped = 1
	}
	return nil, api.OK
}

// other is an OpElse that ends a branch which was executed.
func (m *machine) other([][]byte) ([][]byte, api.Errno) {
	m.skipped = 1
	return nil, api.OK
}

func (m *machine) end([][]byte) ([][]byte, api.Errno) { return nil, api.OK }

// signed tells whether s is a signature of the message by a key; either may be of any length.
func (m *machine) signed(s, key []byte) bool {
	return len(key) == len(api.Key{}) && len(s) == len(api.Sig{}) && sig.Verify(api.Key(key), m.message[:], api.Sig(s))
}

// truth tells whether an element is true.
func truth(b []byte) bool {
	for _, x := range b {
		if x != 0 {
			return true
		}
	}
	return false
}

// result is the element that stands for a truth, alone.
func result(is bool) ([][]byte, api.Errno) {
	if is {
		return [][]byte{{1}}, api.OK
	}
	return [][]byte{{}}, api.OK
}

// number is what at most 8 bytes represent.
func number(b []byte) uint64 {
	var n uint64
	for _, x := range b {
		n = n<<8 | uint64(x)
	}
	return n
}
