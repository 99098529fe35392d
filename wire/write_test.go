package wire_test

import (
	"testing"

	"tollhouse/api"
)

func (k thing[T]) testChanges(t *testing.T) {
	var seen [3]int
	for _, c := range k.changes() {
		x := k.full(1)
		c.do(&x)
		seen[c.is]++
		if c.is == fine {
			k.writes(t, c.name, x)
			continue
		}
		k.refused(t, c.name, x)
		if c.is == broken {
			k.unread(t, c.name, sheetOf(x, k.lay).bytes())
		}
	}
	t.Log("changes of things that may be, that may not be, and whose bytes may not be:", seen)
}

// TestChanges: whatever a thing has in one place, with all else set.
func TestChanges(t *testing.T) { each(t, subject.testChanges) }

func (k thing[T]) testFull(t *testing.T) {
	for _, n := range []int{0, 1, 2, 3, 90, 200} {
		k.writes(t, "full", k.full(n))
	}
}

// TestFull: things with every field set, in more than one way.
func TestFull(t *testing.T) { each(t, subject.testFull) }

// TestTwoFaults: where two things are wrong, the one error is told just once.
func TestTwoFaults(t *testing.T) {
	k := subjects()[2].(thing[api.Block])
	b := fullBlock(1)
	b.Sigs[0].Key = 256
	b.Txs[1].Ins = make([]api.In, 17)
	b.Header.Reward = text(0, 257)
	k.refused(t, "much is wrong", b)
	// What stands behind something wrong is right.
	b = fullBlock(1)
	b.Header.Next.T = -1
	k.refused(t, "the first thing is wrong", b)
	b = fullBlock(1)
	b.Txs[2].Outs[2].Script = text(0, 257)
	k.refused(t, "the last thing is wrong", b)
}
