package codec_test

import (
	"math"
	"slices"
	"strings"
	"testing"

	"tollhouse/api"
	"tollhouse/codec"
)

// row is an element of several parts, one of them a list.
type row struct {
	key  api.Digest
	many uint64
	text string
	subs []uint32
}

func putRow(w *codec.Writer, x row) {
	w.Raw(x.key[:])
	w.Var(x.many)
	w.Text([]byte(x.text))
	codec.Put(w, x.subs, (*codec.Writer).Word)
}

func getRow(r *codec.Reader) row {
	var x row
	copy(x.key[:], r.Raw(len(x.key)))
	x.many = r.Var(top)
	x.text = string(r.Text(math.MaxInt))
	x.subs = codec.List(r, math.MaxInt, (*codec.Reader).Word)
	return x
}

func sameRow(a, b row) bool {
	return a.key == b.key && a.many == b.many && a.text == b.text && slices.Equal(a.subs, b.subs)
}

// someRows are so many rows, all unlike.
func someRows(many int) []row {
	var l []row
	for i := range many {
		x := row{api.Digest{byte(i), 31: 9}, edges[i%len(edges)], strings.Repeat("x", i%5), nil}
		for j := range i % 4 {
			x.subs = append(x.subs, uint32(100*i+j))
		}
		l = append(l, x)
	}
	return l
}

// put is what Put writes.
func put[T any](l []T, one func(w *codec.Writer, x T)) []byte {
	w := codec.New()
	codec.Put(w, l, one)
	return w.Bytes()
}

// both reads bytes by List, and by Items, and holds the elements, and what is left, against what they should be.
func both[T any](t *testing.T, what string, b []byte, most int, one func(r *codec.Reader) T, want []T, left int, same func(a, b T) bool) {
	t.Helper()
	r := codec.Read(b)
	if l := codec.List(r, most, one); !slices.EqualFunc(l, want, same) {
		t.Errorf("P11.3: List of %s: %.80v, want %.80v", what, l, want)
	}
	isAt(t, "List of "+what, r, left, api.OK)
	r = codec.Read(b)
	var l []T
	for i, x := range codec.Items(r, most, one) {
		if i != len(l) {
			t.Errorf("P11.3: Items of %s: index %d, want %d", what, i, len(l))
		}
		l = append(l, x)
	}
	if !slices.EqualFunc(l, want, same) {
		t.Errorf("P11.3: Items of %s: %.80v, want %.80v", what, l, want)
	}
	isAt(t, "Items of "+what, r, left, api.OK)
}

// equal is == as a function.
func equal[T comparable](a, b T) bool { return a == b }

// sizes are how many elements the lists of the tests have.
var sizes = []int{0, 1, 2, 3, 17, 252, 253, 254, 300}

func TestPut(t *testing.T) {
	for _, many := range append(sizes, 65535, 65536) {
		l := filled(many)
		w := codec.New()
		w.Byte(77)
		var seen []byte
		codec.Put(w, l, func(inner *codec.Writer, x byte) {
			if inner != w {
				t.Fatal("P11.3: Put hands on another writer")
			}
			if want := 1 + len(varOf(uint64(many))) + 2*len(seen); w.Len() != want {
				t.Fatalf("P11.3: Put: %d bytes before element %d, want %d", w.Len(), len(seen), want)
			}
			seen = append(seen, x)
			inner.Byte(x)
			inner.Byte(^x)
		})
		if !slices.Equal(seen, l) {
			t.Errorf("P11.3: Put of %d elements: %.40x", many, seen)
		}
		want := slices.Concat([]byte{77}, varOf(uint64(many)))
		for _, x := range l {
			want = append(want, x, ^x)
		}
		isWritten(t, "Put", w, want)
	}
	isWritten(t, "nothing", codec.New(), nil)
	if b := put[row](nil, putRow); !slices.Equal(b, []byte{0}) {
		t.Errorf("P11.3: Put of nil: %x", b)
	}
	if b := put([]struct{}{{}, {}, {}}, func(*codec.Writer, struct{}) {}); !slices.Equal(b, []byte{3}) {
		t.Errorf("P11.3: Put of elements without bytes: %x", b)
	}
	if b := put([]string{"", "ab"}, func(w *codec.Writer, x string) { w.Text([]byte(x)) }); !slices.Equal(b, unhex("02 00 02 61 62")) {
		t.Errorf("P11.3: Put of texts: %x", b)
	}
}

func TestPutLeavesItsArgument(t *testing.T) {
	b, check := guarded(t, filled(30))
	w := codec.New()
	codec.Put(w, b, (*codec.Writer).Byte)
	check("Put")
	want := slices.Concat([]byte{30}, filled(30))
	spoil(b)
	isWritten(t, "Put, of a list that is written over", w, want)
}

// Elements of several types, of every number of them, with more behind the list and with none.
func TestListAndItems(t *testing.T) {
	for _, many := range sizes {
		for _, more := range [][]byte{nil, filled(5)} {
			for _, most := range []int{many, many + 1, math.MaxInt} {
				l := filled(many)
				both(t, "bytes", slices.Concat(put(l, (*codec.Writer).Byte), more), most, (*codec.Reader).Byte, l, len(more), equal)
				longs := make([]uint64, many)
				for i := range longs {
					longs[i] = edges[i%len(edges)] + uint64(i)
				}
				both(t, "longs", slices.Concat(put(longs, (*codec.Writer).Long), more), most, (*codec.Reader).Long, longs, len(more), equal)
				both(t, "rows", slices.Concat(put(someRows(many), putRow), more), most, getRow, someRows(many), len(more), sameRow)
				none := make([]struct{}, many)
				both(t, "nothings", slices.Concat(varOf(uint64(many)), more), most, func(*codec.Reader) struct{} { return struct{}{} }, none, len(more), equal)
			}
		}
	}
}

// Lists in lists.
func TestListOfLists(t *testing.T) {
	l := [][]row{someRows(3), nil, someRows(1), {}, someRows(20)}
	b := put(l, func(w *codec.Writer, x []row) { codec.Put(w, x, putRow) })
	get := func(r *codec.Reader) []row { return codec.List(r, 20, getRow) }
	both(t, "lists", b, 5, get, l, 0, func(a, b []row) bool { return slices.EqualFunc(a, b, sameRow) })
	r := codec.Read(b)
	if x := codec.List(r, 5, func(r *codec.Reader) []row { return codec.List(r, 19, getRow) }); x != nil || r.Err() != api.ErrCodecLong {
		t.Errorf("P11.3: List of lists of which one is too long: %v, %d", x, r.Err())
	}
}

// broken is where lists can't even begin: nothing is consumed, and no element is asked for.
func broken(t *testing.T, what string, b []byte, most int, e api.Errno) {
	t.Helper()
	one := func(r *codec.Reader) int {
		t.Errorf("P11.3: %s: an element was asked for", what)
		return 7
	}
	r := codec.Read(b)
	if l := codec.List(r, most, one); l != nil {
		t.Errorf("P11.3: List of %s: %v, want nil", what, l)
	}
	stays(t, "List of "+what, r, len(b), e)
	r = codec.Read(b)
	for i, x := range codec.Items(r, most, one) {
		t.Errorf("P11.3: Items of %s: %d, %d", what, i, x)
	}
	stays(t, "Items of "+what, r, len(b), e)
}

func TestListMost(t *testing.T) {
	for _, many := range sizes {
		b := put(filled(many), (*codec.Writer).Byte)
		for _, most := range []int{-1, -many, -many - 1, math.MinInt, many - 1, many / 2, 0} {
			if most < many {
				broken(t, "too many", b, most, api.ErrCodecLong)
			}
		}
	}
	for _, n := range edges {
		for _, b := range longer(n) {
			for _, most := range []int{math.MinInt, -1, 0, math.MaxInt} {
				broken(t, "a Var in a longer form", slices.Concat(b, filled(9)), most, api.ErrCodecForm)
				broken(t, "a Var that is cut off", b[:len(b)-1], most, api.ErrCodecShort)
			}
		}
		for _, most := range []int{math.MinInt, -1} {
			broken(t, "a negative most", slices.Concat(varOf(n), filled(9)), most, api.ErrCodecLong)
		}
		if n > math.MaxInt {
			broken(t, "more than there can be", varOf(n), math.MaxInt, api.ErrCodecLong)
		}
	}
	for _, most := range []int{math.MinInt, -1, 0, math.MaxInt} {
		broken(t, "no bytes", nil, most, api.ErrCodecShort)
	}
}

// failing reads a byte for an element; from the element at on, it makes the reader fail, and answers something nevertheless.
type failing struct {
	at, calls int
	how       func(r *codec.Reader)
}

func (f *failing) one(r *codec.Reader) int {
	f.calls++
	x := int(r.Byte())
	if f.calls > f.at {
		f.how(r)
	}
	return x + 1000
}

// TestListFails: the first, a middle and the last element fail; what was consumed until then stays so, and no more elements are asked for.
func TestListFails(t *testing.T) {
	const many = 9
	b := put(filled(many), (*codec.Writer).Byte)
	for at := range many {
		for e, how := range map[api.Errno]func(r *codec.Reader){
			api.ErrWireForm:   func(r *codec.Reader) { r.Fail(api.ErrWireForm) },
			api.ErrCodecShort: func(r *codec.Reader) { r.Raw(many + 1) },
			api.ErrCodecLong:  func(r *codec.Reader) { r.Raw(-1) },
		} {
			left := many - at - 1
			f := failing{at: at, how: how}
			r := codec.Read(b)
			if l := codec.List(r, many, f.one); l != nil {
				t.Errorf("P11.3: List, of which element %d fails: %v, want nil", at, l)
			}
			if f.calls != at+1 {
				t.Errorf("P11.3: List, of which element %d fails: %d were asked for", at, f.calls)
			}
			stays(t, "List", r, left, e)

			f = failing{at: at, how: how}
			r = codec.Read(b)
			var l []int
			for i, x := range codec.Items(r, many, f.one) {
				if i != len(l) || x != 1000+int(b[1+i]) {
					t.Errorf("P11.3: Items, of which element %d fails: %d, %d", at, i, x)
				}
				l = append(l, x)
			}
			if len(l) != at || f.calls != at+1 {
				t.Errorf("P11.3: Items, of which element %d fails: %d were yielded, %d asked for", at, len(l), f.calls)
			}
			stays(t, "Items", r, left, e)
		}
	}
}

// A list that is cut off, at each byte of it; nothing is read behind the element that is not whole.
func TestListCutOff(t *testing.T) {
	rows := someRows(6)
	b := put(rows, putRow)
	for n := range b {
		r := codec.Read(b[:n])
		if l := codec.List(r, math.MaxInt, getRow); l != nil || r.Err() != api.ErrCodecShort {
			t.Errorf("P11.3: List of %d bytes of %d: %v, %d", n, len(b), l, r.Err())
		}
		r = codec.Read(b[:n])
		for i, x := range codec.Items(r, math.MaxInt, getRow) {
			if i >= len(rows) || !sameRow(x, rows[i]) {
				t.Errorf("P11.3: Items of %d bytes of %d: %d, %v", n, len(b), i, x)
			}
		}
		if r.Err() != api.ErrCodecShort {
			t.Errorf("P11.3: Items of %d bytes of %d: %d", n, len(b), r.Err())
		}
	}
	words := []uint32{1, 2, 3}
	b = put(words, (*codec.Writer).Word)
	for n := 1; n < len(b); n++ {
		r := codec.Read(b[:n])
		codec.List(r, 3, (*codec.Reader).Word)
		isAt(t, "List that is cut off", r, (n-1)%4, api.ErrCodecShort)
	}
}

// Many elements are said to follow, and few do: this ends soon, and asks for no room.
func TestListOfTooMany(t *testing.T) {
	for _, n := range []uint64{1 << 20, 1 << 32, 1 << 40, 1 << 62, 1<<63 - 1} {
		b := slices.Concat(varOf(n), filled(10))
		r := codec.Read(b)
		if l := codec.List(r, math.MaxInt, (*codec.Reader).Long); l != nil {
			t.Errorf("P11.3: List that says it has %d elements: %v", n, l)
		}
		stays(t, "List", r, 2, api.ErrCodecShort)
		r = codec.Read(b)
		many := 0
		for range codec.Items(r, math.MaxInt, (*codec.Reader).Long) {
			many++
		}
		if many != 1 {
			t.Errorf("P11.3: Items that says it has %d elements: %d", n, many)
		}
		stays(t, "Items", r, 2, api.ErrCodecShort)
	}
}

// A reader that has failed yields no list, however right one stands there.
func TestListBehindAFailure(t *testing.T) {
	for many := range 3 {
		b := put(filled(many), (*codec.Writer).Byte)
		r := codec.Read(b)
		r.Fail(api.ErrTxForm)
		for _, most := range []int{-1, 0, many, math.MaxInt} {
			one := func(r *codec.Reader) byte {
				t.Error("P11.3: an element was asked for behind a failure")
				return 1
			}
			if l := codec.List(r, most, one); l != nil {
				t.Errorf("P11.3: List behind a failure: %v", l)
			}
			for range codec.Items(r, most, one) {
				t.Error("P11.3: Items behind a failure")
			}
			stays(t, "List behind a failure", r, len(b), api.ErrTxForm)
		}
	}
}

// What was not yielded is not consumed.
func TestItemsLeftEarly(t *testing.T) {
	for _, many := range []int{1, 2, 9} {
		b := slices.Concat(put(filled(many), (*codec.Writer).Byte), []byte{200, 201})
		for stop := range many {
			r := codec.Read(b)
			calls := 0
			one := func(r *codec.Reader) byte { calls++; return r.Byte() }
			for i, x := range codec.Items(r, many, one) {
				if x != b[1+i] {
					t.Errorf("P11.3: Items: %d at %d", x, i)
				}
				isAt(t, "within Items", r, len(b)-2-i, api.OK)
				if i == stop {
					break
				}
			}
			if calls != stop+1 {
				t.Errorf("P11.3: Items, left at %d: %d were asked for", stop, calls)
			}
			isAt(t, "Items, left early", r, len(b)-2-stop, api.OK)
			if x := r.Byte(); x != b[2+stop] {
				t.Errorf("P11.3: behind Items, left at %d: %d", stop, x)
			}
		}
	}
}

// Nothing is read before a loop begins, and each loop begins with a Var of its own.
func TestItemsGoneOverTwice(t *testing.T) {
	first, second := []uint32{1, 2, 3}, []uint32{4, 5}
	b := slices.Concat(put(first, (*codec.Writer).Word), put(second, (*codec.Writer).Word), put[uint32](nil, nil), []byte{9})
	r := codec.Read(b)
	items := codec.Items(r, 3, (*codec.Reader).Word)
	isAt(t, "Items without a loop", r, len(b), api.OK)
	for _, want := range [][]uint32{first, second, nil} {
		var l []uint32
		for i, x := range items {
			if i != len(l) {
				t.Errorf("P11.3: Items: index %d, want %d", i, len(l))
			}
			l = append(l, x)
		}
		if !slices.Equal(l, want) {
			t.Errorf("P11.3: Items gone over again: %v, want %v", l, want)
		}
	}
	isAt(t, "Items gone over thrice", r, 1, api.OK)
	for range items { // there are said to be nine
		t.Error("P11.3: Items of too many")
	}
	stays(t, "Items gone over once too often", r, 1, api.ErrCodecLong)

	r = codec.Read(put(first, (*codec.Writer).Word))
	items = codec.Items(r, 3, (*codec.Reader).Word)
	for range items {
		break
	}
	isAt(t, "Items, left early", r, 8, api.OK)
	r.Word()
	r.Fail(api.ErrArg)
	for range items {
		t.Error("P11.3: Items gone over behind a failure")
	}
	stays(t, "Items gone over behind a failure", r, 4, api.ErrArg)
}

// What the loop does with the reader counts as well: what it fails with ends the loop, what it reads is not an element.
func TestItemsWithinALoop(t *testing.T) {
	b := put([]byte{1, 2, 3, 4, 5, 6}, (*codec.Writer).Byte)
	for stop := range 6 {
		r := codec.Read(b)
		calls := 0
		for i := range codec.Items(r, 6, func(r *codec.Reader) byte { calls++; return r.Byte() }) {
			if i == stop {
				r.Fail(api.ErrArg)
			}
		}
		if calls != stop+1 {
			t.Errorf("P11.3: Items, in which the loop fails at %d: %d were asked for", stop, calls)
		}
		stays(t, "Items, in which the loop fails", r, 5-stop, api.ErrArg)
	}
	b[0] = 3
	r := codec.Read(b)
	var seen []byte
	for _, x := range codec.Items(r, 3, (*codec.Reader).Byte) {
		seen = append(seen, x, 10*r.Byte())
	}
	if !slices.Equal(seen, []byte{1, 20, 3, 40, 5, 60}) {
		t.Errorf("P11.3: Items, in which the loop reads: %v", seen)
	}
	isAt(t, "Items, in which the loop reads", r, 0, api.OK)
}

// Two lists of one reader share nothing.
func TestListsAreNew(t *testing.T) {
	b := put([]byte{1, 2, 3}, (*codec.Writer).Byte)
	r := codec.Read(slices.Concat(b, b, b))
	first, second := codec.List(r, 3, (*codec.Reader).Byte), codec.List(r, 3, (*codec.Reader).Byte)
	spoil(first)
	third := codec.List(r, 3, (*codec.Reader).Byte)
	if !slices.Equal(second, b[1:]) || !slices.Equal(third, b[1:]) {
		t.Errorf("R5: what is written into one list is seen in another: %v, %v", second, third)
	}
}
