package logstore

import (
	"tollhouse/api"
	"tollhouse/codec"
)

// What a frame has beside its body: in front of it the body's length and a sum of that, behind it a sum of the body.
const (
	lengthBytes = 4
	front       = lengthBytes + 4
	back        = 4
)

// The first byte of a change says which of the two it is.
const (
	dropped = 0
	set     = 1
)

// The polynomial of the checksum, its lowest power in the highest bit.
const polynomial = 0xedb88320

// Sum is the checksum CRC-32, which no single inverted bit leaves as it was.
func Sum(b []byte) uint32 {
	sum := ^uint32(0)
	for _, c := range b {
		sum ^= uint32(c)
		for range 8 {
			// The lowest bit's negative is all ones or none: so nothing has to branch on a bit that nobody can foresee.
			sum = sum>>1 ^ polynomial&-(sum&1)
		}
	}
	return ^sum
}

// Frame is a batch as bytes.
func Frame(l []api.Change) ([]byte, api.Errno) {
	if code := right(l); code != api.OK {
		return nil, code
	}
	body := codec.New()
	codec.Put(body, l, write)
	if body.Len() > api.MaxFrame {
		return nil, api.ErrLogstoreMany
	}
	return enclose(body.Bytes()), api.OK
}

// right tells what is wrong first with changes, but for how long their body is.
func right(l []api.Change) api.Errno {
	if len(l) > api.MaxBatch {
		return api.ErrLogstoreMany
	}
	for _, c := range l {
		switch {
		case len(c.Key) == 0 || len(c.Key) > api.MaxLogKey:
			return api.ErrLogstoreKey
		case !c.Drop && len(c.Value) > api.MaxLogItem:
			return api.ErrLogstoreValue
		}
	}
	return api.OK
}

// write writes a change, unless the body is too long without it: one long value may stand in all changes, and their bodies together be far longer than what was given.
func write(w *codec.Writer, c api.Change) {
	switch {
	case w.Len() > api.MaxFrame:
	case c.Drop:
		w.Byte(dropped)
		w.Text(c.Key)
	default:
		w.Byte(set)
		w.Text(c.Key)
		w.Text(c.Value)
	}
}

// enclose lays a body into a frame.
func enclose(body []byte) []byte {
	w := codec.New()
	w.Word(uint32(len(body)))
	w.Word(Sum(w.Bytes()))
	w.Raw(body)
	w.Word(Sum(body))
	return w.Bytes()
}

// need tells how many bytes the frame has that begins some bytes: more than there are, where it is torn. Its length has a sum of its own, so that a spoilt one isn't taken for a torn end.
func need(b []byte) (int, api.Errno) {
	if len(b) < front {
		return front, api.OK
	}
	r := codec.Read(b[:front])
	body := r.Word()
	if r.Word() != Sum(b[:lengthBytes]) {
		return 0, api.ErrLogstoreSpoilt
	}
	return front + int(body) + back, api.OK
}

// batch tells the changes of a complete frame whose length is right.
func batch(frame []byte) ([]api.Change, api.Errno) {
	end := len(frame) - back
	body := frame[front:end]
	if codec.Read(frame[end:]).Word() != Sum(body) {
		return nil, api.ErrLogstoreSpoilt
	}
	r := codec.Read(body)
	l := codec.List(r, api.MaxBatch, read)
	if r.End() != api.OK {
		return nil, api.ErrLogstoreSpoilt
	}
	return l, api.OK
}

// read reads a change of the form that right asks for.
func read(r *codec.Reader) api.Change {
	kind := r.Byte()
	c := api.Change{Key: r.Text(api.MaxLogKey), Drop: kind == dropped}
	if kind == set {
		c.Value = r.Text(api.MaxLogItem)
	}
	if kind > set || len(c.Key) == 0 {
		r.Fail(api.ErrLogstoreSpoilt)
	}
	return c
}
