package script

import "tollhouse/api"

const shareSize = 2 // bytes that follow OpShare

// operation is one of a program: its first byte, and those that follow it.
type operation struct {
	code byte
	rest []byte
}

// parse takes a program apart; the error is what is wrong first, from its beginning.
func parse(program []byte) ([]operation, api.Errno) {
	if len(program) > api.MaxScript {
		return nil, api.ErrScriptLong
	}
	var l []operation
	var open branches
	for len(program) > 0 {
		size, ok := follow(program[0])
		if !ok || len(program) < 1+size {
			return nil, api.ErrScriptOp
		}
		op := operation{program[0], program[1 : 1+size]}
		if !open.take(op.code) {
			return nil, api.ErrScriptIf
		}
		l = append(l, op)
		program = program[1+size:]
	}
	if len(open) > 0 {
		return nil, api.ErrScriptIf
	}
	return l, api.OK
}

// follow tells how many bytes follow the first one of an operation; false: no operation begins with it.
func follow(code byte) (int, bool) {
	switch {
	case code <= api.MaxPush:
		return int(code), true
	case code == api.OpShare:
		return shareSize, true
	}
	return 0, code >= api.OpVerify && code <= api.OpEnd
}

// branches has a truth for each OpIf that has no OpEnd yet, the innermost one last: whether its OpElse was there.
type branches []bool

// take goes on by an operation; false: it doesn't match.
func (b *branches) take(code byte) bool {
	last := len(*b) - 1
	switch code {
	case api.OpIf:
		*b = append(*b, false)
	case api.OpElse:
		if last < 0 || (*b)[last] {
			return false
		}
		(*b)[last] = true
	case api.OpEnd:
		if last < 0 {
			return false
		}
		*b = (*b)[:last]
	}
	return true
}
