package curve

import (
	"crypto/sha256"
	"slices"
	"testing"

	"tollhouse/api"
)

// No name is known for which more than a few of the x(i) have no point: what happens then is tested on what Generator is made of.

func TestCandidates(t *testing.T) {
	tag := sha256.Sum256([]byte("tollhouse/generator"))
	name := api.Digest{1, 2, 31: 3}
	var want []api.Key
	for i := range 256 {
		want = append(want, sha256.Sum256(slices.Concat(tag[:], tag[:], name[:], []byte{byte(i)})))
	}
	if got := slices.Collect(candidates(name)); !slices.Equal(got, want) {
		t.Errorf("P5.5: the x(i) of %x are %x, want %x", name, got, want)
	}
}

func TestFirst(t *testing.T) {
	none, two := api.Key{31: 5}, api.Key{31: 2}
	one, _ := Lift(api.Key{31: 1})
	second, _ := Lift(two)
	for _, c := range []struct {
		l    []api.Key
		want api.Point
	}{
		{nil, Base()},
		{slices.Repeat([]api.Key{none}, 256), Base()},
		{append(slices.Repeat([]api.Key{none}, 255), two), second},
		{[]api.Key{{31: 1}, two}, one},
		{[]api.Key{two, {31: 1}}, second},
		{[]api.Key{{}, none, two, {31: 1}}, second},
	} {
		if got := first(slices.Values(c.l)); got != c.want {
			t.Errorf("P5.5: of %x, the generator is %v, want %v", c.l, got, c.want)
		}
	}
}
