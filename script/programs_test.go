package script_test

import (
	"bytes"
	"testing"

	"tollhouse/api"
	"tollhouse/script"
)

func TestPay(t *testing.T) {
	keys := []api.Key{{}, {1}, api.Key(hexes(firstKey)), api.Key(bytes.Repeat([]byte{255}, 32)), api.Key(noise(1, 32)), api.Key(bytes.Repeat([]byte{opEnd}, 32))}
	for _, key := range keys {
		p := script.Pay(key)
		want := append(append([]byte{0x20}, key[:]...), 0x67)
		if !bytes.Equal(p, want) {
			t.Errorf("P13.4: Pay(%x) = %x, not %x", key, p, want)
		}
		if e := script.Right(p); e != ok {
			t.Errorf("P13.4: Pay(%x) is no program: %s", key, name(e))
		}
	}
	if p := script.Pay(api.Key(hexes(firstKey))); !bytes.Equal(p, payProgram()) {
		t.Errorf("P13.4: Pay = %x", p)
	}
}

// wantShare are the bytes that the chapter asks for.
func wantShare(p api.Params) []byte {
	var b bytes.Buffer
	for _, key := range p.Keys {
		b.WriteByte(32)
		b.Write(key[:])
	}
	b.Write([]byte{0x68, byte(p.T), byte(len(p.Keys))})
	return b.Bytes()
}

func shares(t *testing.T, p api.Params, want []byte, e api.Errno) {
	t.Helper()
	got, f := script.Share(p)
	if !bytes.Equal(got, want) || f != e || e != ok && got != nil {
		t.Errorf("P13.4: Share({T %d, %d keys}) = %s, %s; not %s, %s", p.T, len(p.Keys), show(got), name(f), show(want), name(e))
	}
	if e == ok && script.Right(got) != ok {
		t.Errorf("P13.4: Share({T %d, %d keys}) is no program", p.T, len(p.Keys))
	}
}

func TestShare(t *testing.T) {
	const most = 7 // keys of 33 bytes each, and three bytes more: 234; eight keys would be 267
	for n := range 20 {
		p := api.Params{}
		for i := range n {
			p.Keys = append(p.Keys, api.Key(noise(int64(100*n+i), 32)))
		}
		for least := -3; least <= n+3; least++ {
			p.T = least
			if least >= 1 && least <= n && n <= most {
				shares(t, p, wantShare(p), ok)
			} else {
				shares(t, p, nil, errArg)
			}
		}
		for _, least := range []int{-1 << 63, -1 << 32, -256, -255, 255, 256, 257, 256 + n, 1<<32 + 1, 1<<62 + 1, 1<<63 - 1} {
			p.T = least
			shares(t, p, nil, errArg)
		}
	}
	shares(t, api.Params{T: 2, Keys: []api.Key{api.Key(hexes(firstKey)), api.Key(hexes(secondKey)), api.Key(hexes(thirdKey))}}, shareProgram(), ok)
	for _, n := range []int{16, 17, 255, 256, 257, 258, 263, 65536, 65537, 1 << 20} {
		for _, least := range []int{0, 1, 2, n % 256, n, n + 1} {
			shares(t, api.Params{T: least, Keys: make([]api.Key, n)}, nil, errArg)
		}
	}
	shares(t, api.Params{}, nil, errArg)
	shares(t, api.Params{T: 1}, nil, errArg)
	shares(t, api.Params{T: 1, Keys: []api.Key{}}, nil, errArg)
	// Keys that are none, or the same, are pushed as they are.
	for n := 1; n <= most; n++ {
		p := api.Params{T: n, Keys: make([]api.Key, n)}
		shares(t, p, wantShare(p), ok)
	}
	// Their order is that of the list.
	a, b := api.Key{1}, api.Key{2}
	shares(t, api.Params{T: 1, Keys: []api.Key{a, b}}, program(32, a[:], 32, b[:], 0x68, 1, 2), ok)
	shares(t, api.Params{T: 1, Keys: []api.Key{b, a}}, program(32, b[:], 32, a[:], 0x68, 1, 2), ok)
}
