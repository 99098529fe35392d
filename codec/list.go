package codec

import (
	"iter"

	"tollhouse/api"
)

// Put writes how many elements there are, and each of them.
func Put[T any](w *Writer, l []T, one func(w *Writer, x T)) {
	w.Var(uint64(len(l)))
	for _, x := range l {
		one(w, x)
	}
}

// List reads what Put writes, at most so many elements.
func List[T any](r *Reader, most int, one func(r *Reader) T) []T {
	// The list grows as it is read: that many elements are said to follow is no reason to make room for them.
	var l []T
	for _, x := range Items(r, most, one) {
		l = append(l, x)
	}
	if r.Err() != api.OK {
		return nil
	}
	return l
}

// Items reads what Put writes element by element, as far as the loop over it goes.
func Items[T any](r *Reader, most int, one func(r *Reader) T) iter.Seq2[int, T] {
	return func(yield func(int, T) bool) {
		many := r.count(most)
		// The loop has the reader, too, so that it can fail between two elements.
		for i := 0; i < many && r.Err() == api.OK; i++ {
			x := one(r)
			if r.Err() != api.OK || !yield(i, x) {
				return
			}
		}
	}
}
