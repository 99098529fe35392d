package ring

import (
	"slices"
	"testing"

	"tollhouse/api"
	"tollhouse/curve"
	"tollhouse/scalar"
)

// No signature is known of which a challenge is 0, or of which all scalars are placeholders; but rows and challenges can be laid out thus.

// laid are rows that hide secrets behind challenges.
func laid(b bound, seed api.Digest, l []api.Secret, e [][]api.Scalar) [][]api.Scalar {
	rows := b.fakes(seed)
	for i, k := range l {
		rows[i][k.At] = scalar.Sub(b.nonce(seed, i), scalar.Mul(e[i][k.At], k.X))
	}
	return rows
}

func TestSecretsWithoutChallenge(t *testing.T) {
	seed := api.Digest{5}
	x := []api.Scalar{scalar.Of(7), {}, scalar.Of(11)}
	keys := []api.Point{curve.Mul(x[0], curve.Base()), curve.Zero(), curve.Mul(x[2], curve.Base())}
	b := bind([]byte("abc"), [][]api.Point{keys, keys})
	for at := range 3 {
		for i := range 2 {
			l := []api.Secret{{At: at, X: x[at]}, {At: 2 - at, X: x[2-at]}}
			e := [][]api.Scalar{{{1}, {2}, {3}}, {{4}, {5}, {6}}}
			if got, ok := b.secrets(seed, laid(b, seed, l, e), e); !ok || !slices.Equal(got, l) {
				t.Errorf("P8.3: secrets at %d: %x, %v", at, got, ok)
			}
			for j := range 3 {
				e[i][j] = api.Scalar{}
				got, ok := b.secrets(seed, laid(b, seed, l, e), e)
				if want := j != l[i].At; ok != want || want != slices.Equal(got, l) || !want && len(got) != 0 {
					t.Errorf("P8.3: secrets at %d, with the challenge 0 at key %d of ring %d: %x, %v", at, j, i, got, ok)
				}
				e[i][j] = scalar.Of(8)
			}
		}
	}
}

func TestSecretsOfPlaceholders(t *testing.T) {
	seed := api.Digest{6}
	for many := 1; many <= 3; many++ {
		keys := slices.Repeat([]api.Point{curve.Base()}, many)
		b := bind(nil, [][]api.Point{keys, keys, keys})
		e := slices.Repeat([][]api.Scalar{slices.Repeat([]api.Scalar{scalar.Of(3)}, many)}, 3)
		for i := range 3 {
			l := slices.Repeat([]api.Secret{{At: many - 1, X: scalar.Of(1)}}, 3)
			rows := laid(b, seed, l, e)
			if got, ok := b.secrets(seed, rows, e); !ok || !slices.Equal(got, l) {
				t.Errorf("P8.3: secrets = %x, %v", got, ok)
			}
			rows[i] = b.fakes(seed)[i]
			if got, ok := b.secrets(seed, rows, e); ok || len(got) != 0 {
				t.Errorf("P8.3: secrets of placeholders = %x, %v", got, ok)
			}
		}
	}
}
