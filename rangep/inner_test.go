package rangep

import (
	"testing"

	"tollhouse/api"
	"tollhouse/commit"
	"tollhouse/curve"
	"tollhouse/scalar"
)

// No asset is known as a multiple of Base, so that no opening is known whose asset is Zero, or whose amount is while its value isn't 0; but the points can be given.
func TestFault(t *testing.T) {
	asset := commit.Asset(api.Digest{1}, scalar.Of(2))
	zero := curve.Zero()
	claims := []claim{{zero, curve.Base()}, {asset, zero}, {zero, zero}, {curve.Base(), zero}, {asset, asset}}
	for i, c := range claims {
		for _, k := range []struct {
			value uint64
			bits  int
			want  api.Errno
		}{
			{0, 2, api.ErrArg}, {3, 2, api.ErrArg}, {15, 4, api.ErrArg}, {1<<64 - 1, 64, api.ErrArg},
			{4, 2, api.ErrRangeValue}, {16, 4, api.ErrRangeValue}, {1 << 62, 62, api.ErrRangeValue}, {1<<64 - 1, 2, api.ErrRangeValue},
			{0, 0, api.ErrRangeBits}, {0, 3, api.ErrRangeBits}, {4, 66, api.ErrRangeBits}, {4, -2, api.ErrRangeBits}, {1<<64 - 1, 1, api.ErrRangeBits},
		} {
			want := k.want
			if i == len(claims)-1 && want == api.ErrArg {
				want = api.OK
			}
			if got := fault(c, k.value, k.bits); got != want {
				t.Errorf("P9.1: claim %d, value %d, %d bits: error %d, want %d", i, k.value, k.bits, got, want)
			}
		}
	}
}

// The digits' blinding scalars have that of the amount as their sum, however many there are.
func TestSecrets(t *testing.T) {
	for many := 1; many <= most; many++ {
		for _, k := range []api.Scalar{{}, {1}, {1, 2, 3, 4}, {1<<64 - 1, 1<<64 - 1, 1<<64 - 1, 1<<64 - 1}} {
			o := api.Opening{Value: 0x123456789abcdef1 >> (64 - 2*many), Amount: k}
			l := secrets(api.Digest{3}, o, many)
			if value, blind := joined(l); len(l) != many || value != o.Value || blind != scalar.Norm(k) {
				t.Errorf("P9.1: %d digits of %d, blinded by %x: %x", many, o.Value, k, l)
			}
		}
	}
}
