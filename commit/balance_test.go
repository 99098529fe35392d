package commit_test

import (
	"fmt"
	"slices"
	"testing"

	"tollhouse/api"
	"tollhouse/commit"
	"tollhouse/curve"
	"tollhouse/scalar"
)

func TestBalanced(t *testing.T) {
	a, b, c := commit.Asset(peg, firstK), commit.Asset(gold, none), commit.Value(5, base, secondK)
	twice, minus := curve.Add(base, base), curve.Neg(base)
	for _, k := range []struct {
		what string
		a, b []api.Point
		want bool
	}{
		{"nothing and nothing", nil, nil, true},
		{"nothing and nothing", nil, []api.Point{}, true},
		{"nothing and Zero", nil, []api.Point{zero}, true},
		{"Zero and Zero twice", []api.Point{zero}, []api.Point{zero, zero}, true},
		{"nothing and a point", nil, []api.Point{base}, false},
		{"a point and Zero", []api.Point{a}, []api.Point{zero}, false},
		{"a point and itself", []api.Point{a}, []api.Point{a}, true},
		{"a point and its opposite", []api.Point{a}, []api.Point{curve.Neg(a)}, false},
		{"two points and nothing", []api.Point{b, curve.Neg(b)}, nil, true},
		{"a point and one of its Y", []api.Point{a}, []api.Point{level(a)}, false},
		{"a point and another", []api.Point{a}, []api.Point{b}, false},
		{"two points and their sum", []api.Point{a, b}, []api.Point{curve.Add(a, b)}, true},
		{"a point twice and its double", []api.Point{base, base}, []api.Point{twice}, true},
		{"a point twice and once", []api.Point{base, base}, []api.Point{base}, false},
		{"a point three times and its double", []api.Point{base, base, base}, []api.Point{twice}, false},
		{"a point less its double and its opposite", []api.Point{base, curve.Neg(twice)}, []api.Point{minus}, true},
		{"two points in another order", []api.Point{a, b}, []api.Point{b, a}, true},
		{"two points, of which one is twice there", []api.Point{a, b}, []api.Point{b, b}, false},
		{"a point more", []api.Point{a, b}, []api.Point{a, b, c}, false},
		{"a point less", []api.Point{a, b, c}, []api.Point{c, b}, false},
		{"another point", []api.Point{a, b, c}, []api.Point{a, b, base}, false},
		{"another first point", []api.Point{a, b, c}, []api.Point{minus, b, c}, false},
		{"points on the other side", []api.Point{a, b}, []api.Point{c, curve.Add(curve.Add(a, b), curve.Neg(c))}, true},
	} {
		if commit.Balanced(k.a, k.b) != k.want || commit.Balanced(k.b, k.a) != k.want {
			t.Errorf("P7.4: Balanced of %s: not %v", k.what, k.want)
		}
	}
}

// Points that are not valid are treated as Zero.
func TestBalancedInvalid(t *testing.T) {
	for _, p := range invalid() {
		if !commit.Balanced([]api.Point{p, base}, []api.Point{base}) || !commit.Balanced([]api.Point{base}, []api.Point{base, p, p}) || !commit.Balanced([]api.Point{p}, nil) {
			t.Errorf("P7.4: %s counts", show(p))
		}
		if commit.Balanced([]api.Point{p}, []api.Point{base}) || commit.Balanced(nil, []api.Point{p, base}) {
			t.Errorf("P7.4: %s is as much as Base", show(p))
		}
	}
}

func TestBalancedAmounts(t *testing.T) {
	a := commit.Asset(peg, firstK)
	in := []api.Point{commit.Value(5, a, one)}
	if !commit.Balanced(in, []api.Point{commit.Value(2, a, scalar.Of(3)), commit.Value(3, a, lessTwo)}) {
		t.Error("P7.4: 5 is not 2 and 3")
	}
	for _, out := range [][]api.Point{
		{commit.Value(2, a, scalar.Of(3)), commit.Value(2, a, lessTwo)},
		{commit.Value(2, a, scalar.Of(3)), commit.Value(4, a, lessTwo)},
		{commit.Value(2, a, scalar.Of(3)), commit.Value(3, a, lessOne)},
		{commit.Value(2, a, two), commit.Value(3, a, lessTwo)},
		{commit.Value(2, a, scalar.Of(3)), commit.Value(3, commit.Asset(gold, firstK), lessTwo)},
		{commit.Value(2, a, scalar.Of(3)), commit.Value(3, commit.Asset(peg, none), lessTwo)},
		{commit.Value(2, a, scalar.Of(3))},
	} {
		if commit.Balanced(in, out) {
			t.Error("P7.4: 5 is what it is not")
		}
	}
}

// orders are all orders of some points.
func orders(l []api.Point) [][]api.Point {
	if len(l) == 0 {
		return [][]api.Point{nil}
	}
	var all [][]api.Point
	for i, p := range l {
		for _, rest := range orders(slices.Concat(l[:i], l[i+1:])) {
			all = append(all, append(rest, p))
		}
	}
	return all
}

func TestBalancedInAnyOrder(t *testing.T) {
	for _, l := range [][]api.Point{{base}, {base, curve.Neg(base), commit.Asset(gold, two)}, {commit.Asset(peg, firstK), base, zero, commit.Asset(gold, none)}, {base, base, commit.Asset(peg, none), curve.Neg(base)}} {
		for _, o := range orders(l) {
			if !commit.Balanced(l, o) {
				t.Errorf("P7.6: %d points in another order are not balanced", len(l))
			}
			for i := range o {
				wrong := slices.Clone(o)
				wrong[i] = commit.Asset(last, secondK)
				if commit.Balanced(l, wrong) || commit.Balanced(wrong, l) || commit.Balanced(l, slices.Delete(wrong, i, i+1)) != (o[i] == zero) {
					t.Errorf("P7.4: %d points are balanced, though the point %d of one side is another", len(l), i)
				}
			}
		}
	}
	long := slices.Repeat(hiding(), 20)
	back := slices.Clone(long)
	slices.Reverse(back)
	if !commit.Balanced(long, back) || commit.Balanced(long, back[1:]) || commit.Balanced(long[1:], back) {
		t.Error("P7.6: a long list and its reverse")
	}
}

func TestBalancedKeepsItsLists(t *testing.T) {
	l := append(hiding(), invalid()...)
	a, b := slices.Clone(l), slices.Clone(l)
	commit.Balanced(a[:5], b[3:7:9])
	commit.Balanced(a, b)
	if !slices.Equal(a, l) || !slices.Equal(b, l) {
		t.Error("R5: Balanced changed its lists")
	}
}

// part is a value and what it is blinded by.
type part struct {
	value uint64
	blind api.Scalar
}

func TestSums(t *testing.T) {
	for _, l := range [][]part{
		nil,
		{{0, none}},
		{{all, lessOne}},
		{{0, none}, {0, order}},
		{{2, scalar.Of(3)}, {3, lessTwo}},
		{{5, one}, {0, lessOne}},
		{{1, highest}, {1, highest}, {1, highest}},
		{{all - 1, firstK}, {1, secondK}},
		{{1 << 63, firstK}, {1<<63 - 1, scalar.Neg(firstK)}},
		{{all, highest}, {0, firstK}, {0, lessOne}},
		{{0x123456789abcdef0, lessOne}, {0x0fedcba987654321, one}, {0xddddddddddddddee, moreOne}},
		{{1 << 62, lessOne}, {1 << 62, lessOne}, {1 << 62, lessOne}, {1<<62 - 1, lessOne}},
	} {
		for _, p := range []api.Point{base, zero, commit.Asset(peg, none), commit.Asset(gold, firstK), curve.Neg(commit.Asset(last, secondK))} {
			var sum uint64
			blind, points := none, []api.Point(nil)
			for _, c := range l {
				sum += c.value
				blind = scalar.Add(blind, c.blind)
				points = append(points, commit.Value(c.value, p, c.blind))
			}
			whole := commit.Value(sum, p, blind)
			same(t, fmt.Sprintf("P7.6: the commitment to %d by %x", sum, blind), whole, curve.Sum(slices.Values(points)))
			if !commit.Balanced(points, []api.Point{whole}) {
				t.Errorf("P7.6: the commitments to the parts of %d are not balanced with that to the sum", sum)
			}
			more := commit.Value(sum+1, p, blind)
			if commit.Balanced(points, []api.Point{more}) != (p == zero) {
				t.Errorf("P7.4: the commitments to the parts of %d, and that to one more", sum)
			}
		}
	}
}
