package wire_test

import (
	"fmt"
	"math/rand/v2"
	"testing"

	"tollhouse/api"
	"tollhouse/wire"
)

// thing is one of the types that have functions of their own: these, and what the tests know of it.
type thing[T any] struct {
	name    string
	write   func(x T) ([]byte, api.Errno)
	read    func(b []byte) (T, api.Errno)
	lay     func(s *sheet, x T)
	full    func(n int) T
	some    func(g *rand.Rand) T
	changes func() []change[T]
}

// subject is a thing of any type.
type subject interface {
	title() string
	testFull(t *testing.T)
	testChanges(t *testing.T)
	testPieces(t *testing.T)
	testCuts(t *testing.T)
	testSome(t *testing.T)
	testAny(t *testing.T)
	testUnlike(t *testing.T)
	testMemory(t *testing.T)
}

func (k thing[T]) title() string { return k.name }

func subjects() []subject {
	return []subject{
		thing[api.Tx]{"Tx", wire.Tx, wire.ReadTx, layTx, fullTx, someTx, txs},
		thing[api.Header]{"Header", wire.Header, wire.ReadHeader, layHeader, fullHeader, someHeader, headers},
		thing[api.Block]{"Block", wire.Block, wire.ReadBlock, layBlock, fullBlock, someBlock, blocks},
		thing[api.Out]{"Out", wire.Out, wire.ReadOut, layOut, fullOut, someOut, outs},
		thing[api.MainTx]{"MainTx", wire.MainTx, wire.ReadMainTx, layMainTx, fullMainTx, someMainTx, mainTxs},
		thing[api.MainHeader]{"MainHeader", mainHeader, wire.ReadMainHeader, layMainHeader, fullMainHeader, someMainHeader, mainHeaders},
		thing[api.Params]{"Params", wire.Params, wire.ReadParams, layParams, fullParams, someParams, params},
		thing[api.Config]{"Config", wire.Config, wire.ReadConfig, layConfig, fullConfig, someConfig, configs},
	}
}

// mainHeader is wire.MainHeader, which no header lets fail.
func mainHeader(h api.MainHeader) ([]byte, api.Errno) { return wire.MainHeader(h), api.OK }

// each runs a test for all types.
func each(t *testing.T, test func(s subject, t *testing.T)) {
	for _, s := range subjects() {
		t.Run(s.title(), func(t *testing.T) { test(s, t) })
	}
}

// writes holds a thing to have an encoding, that of the tests' own words, and to be read back from it.
func (k thing[T]) writes(t *testing.T, what string, x T) {
	t.Helper()
	want := sheetOf(x, k.lay).bytes()
	b, code := k.write(x)
	if code != api.OK || string(b) != string(want) {
		t.Errorf("P12.1: %s: %s: %d, %s, want %s", k.name, what, code, short(b), short(want))
	}
	y, code := k.read(want)
	if code != api.OK || !same(x, y) {
		t.Errorf("P12.2, P12.4: %s: %s: read again: %d, %s, want %s", k.name, what, code, brief(y), brief(x))
	}
}

// refused holds a thing to have no encoding.
func (k thing[T]) refused(t *testing.T, what string, x T) {
	t.Helper()
	if b, code := k.write(x); code != api.ErrWireForm || b != nil {
		t.Errorf("P12.1: %s: %s: %d, %s, want no encoding", k.name, what, code, short(b))
	}
}

// unread holds bytes to be no encoding.
func (k thing[T]) unread(t *testing.T, what string, b []byte) {
	t.Helper()
	var none T
	if x, code := k.read(b); code != api.ErrWireForm || !same(x, none) {
		t.Errorf("P12.2: %s: %s: %s is read as %d, %s", k.name, what, short(b), code, brief(x))
	}
}

func short(b []byte) string { return fmt.Sprintf("%d bytes %.120x", len(b), b) }

func brief(x any) string { return fmt.Sprintf("%.300v", x) }
