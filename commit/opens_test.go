package commit_test

import (
	"slices"
	"testing"

	"tollhouse/api"
	"tollhouse/commit"
	"tollhouse/curve"
	"tollhouse/scalar"
)

// plusN is the same number modulo n, where a number as great still has four words.
func plusN(k api.Scalar) api.Scalar {
	switch k {
	case none:
		return order
	case one:
		return moreOne
	}
	return k
}

// kept is what stands in an output, and its opening.
type kept struct {
	t api.Tag
	a api.Amount
	o api.Opening
}

func (k kept) opens() bool { return commit.Opens(k.t, k.a, k.o) }

// made is what an opening stands for, with each of tag and amount blinded or open.
func made(o api.Opening, tag, amount bool) kept {
	p := commit.Asset(o.Asset, o.Tag)
	k := kept{api.Tag{Id: o.Asset}, api.Amount{Value: o.Value}, o}
	if tag {
		k.t = api.Tag{Blind: true, Point: p}
	}
	if amount {
		k.a = api.Amount{Blind: true, Point: commit.Value(o.Value, p, o.Amount)}
	}
	return k
}

// everyKept are openings of all kinds of tags and amounts.
func everyKept() []kept {
	var l []kept
	for _, id := range []api.Digest{noName, peg, gold} {
		for _, v := range []uint64{0, 1, 5, all} {
			for _, k := range []api.Scalar{one, lessOne, firstK} {
				o := api.Opening{Asset: id, Value: v}
				l = append(l, made(o, false, false))
				o.Amount = k
				l = append(l, made(o, false, true))
				o.Tag = secondK
				l = append(l, made(o, true, true))
				o.Tag, o.Amount = k, none
				l = append(l, made(o, true, false))
				if v != 0 {
					l = append(l, made(o, true, true))
				}
			}
		}
	}
	// What is blinded by 0 is blinded nevertheless.
	l = append(l, made(api.Opening{Asset: peg, Value: 5}, true, false))
	l = append(l, made(api.Opening{Asset: peg, Value: 5}, false, true))
	return append(l, made(api.Opening{Asset: peg, Value: 5}, true, true))
}

func TestOpens(t *testing.T) {
	for _, k := range everyKept() {
		if !k.opens() {
			t.Errorf("P7.5: %+v does not open", k)
		}
	}
}

// Scalars of an opening are taken modulo n.
func TestOpensModuloN(t *testing.T) {
	for _, k := range everyKept() {
		k.o.Tag, k.o.Amount = plusN(k.o.Tag), plusN(k.o.Amount)
		if !k.opens() {
			t.Errorf("P7.5: %+v does not open", k)
		}
	}
	o := api.Opening{Asset: peg, Value: 5, Tag: highest, Amount: scalar.Norm(highest)}
	k := made(o, true, true)
	k.o.Tag, k.o.Amount = o.Amount, o.Tag
	if !k.opens() {
		t.Error("P7.5: 2^256 - 1 is not what is left of it")
	}
}

// otherwise are the openings next to one, each of which opens nothing that the first one opens.
func otherwise(o api.Opening) []api.Opening {
	var l []api.Opening
	for _, id := range []api.Digest{noName, peg, gold, last} {
		if id != o.Asset {
			l = append(l, api.Opening{Asset: id, Value: o.Value, Tag: o.Tag, Amount: o.Amount})
		}
	}
	for _, v := range []uint64{o.Value + 1, o.Value - 1, o.Value ^ 1<<63, o.Value ^ 1<<32} {
		l = append(l, api.Opening{Asset: o.Asset, Value: v, Tag: o.Tag, Amount: o.Amount})
	}
	for _, k := range []api.Scalar{one, lessOne, secondK, {0, 1}, {0, 0, 0, 1 << 62}} {
		l = append(l, api.Opening{Asset: o.Asset, Value: o.Value, Tag: scalar.Add(o.Tag, k), Amount: o.Amount})
		l = append(l, api.Opening{Asset: o.Asset, Value: o.Value, Tag: o.Tag, Amount: scalar.Add(o.Amount, k)})
	}
	if scalar.Norm(o.Tag) != scalar.Norm(o.Amount) {
		l = append(l, api.Opening{Asset: o.Asset, Value: o.Value, Tag: o.Amount, Amount: o.Tag})
	}
	return l
}

func TestOpensNothingElse(t *testing.T) {
	for _, k := range everyKept() {
		for _, o := range otherwise(k.o) {
			if commit.Opens(k.t, k.a, o) {
				t.Errorf("P7.5: %+v opens what %+v opens", o, k)
			}
		}
	}
}

// What is not valid is not opened, even if all that counts otherwise is right.
func TestOpensInvalid(t *testing.T) {
	points := slices.Concat(hiding(), invalid(), []api.Point{zero})
	for _, k := range everyKept() {
		for _, p := range points {
			if !k.t.Blind && p != (api.Point{}) {
				wrong := k
				wrong.t.Point = p
				refuse(t, "an open tag that bears a point", wrong)
			}
			if !k.a.Blind && p != (api.Point{}) {
				wrong := k
				wrong.a.Point = p
				refuse(t, "an open amount that bears a point", wrong)
			}
		}
		wrong := k
		wrong.t.Point = commit.Asset(k.o.Asset, k.o.Tag)
		wrong.t.Id = k.o.Asset
		if wrong != k && wrong.t.Id != noName {
			refuse(t, "a tag that bears both", wrong)
		}
		wrong = k
		wrong.a.Point = commit.Value(k.o.Value, commit.Asset(k.o.Asset, k.o.Tag), k.o.Amount)
		wrong.a.Value = k.o.Value
		if wrong != k && k.o.Value != 0 {
			refuse(t, "an amount that bears both", wrong)
		}
	}
}

func refuse(t *testing.T, what string, k kept) {
	t.Helper()
	if k.opens() {
		t.Errorf("P7.5: %s is opened: %+v", what, k)
	}
}

// Points that are Zero, or not valid, hide nothing: not even where the opening stands for Zero.
func TestOpensNoPoint(t *testing.T) {
	nothing := api.Opening{Asset: peg}
	for _, o := range []api.Opening{nothing, {Asset: peg, Amount: order}, {Asset: peg, Tag: one}, {Asset: peg, Value: 5, Tag: one, Amount: firstK}} {
		for _, p := range append(invalid(), zero) {
			blinded := made(o, true, true)
			blinded.a.Point = p
			refuse(t, "a blinded amount without a point", blinded)
			blinded = made(o, true, false)
			blinded.t.Point = p
			refuse(t, "a blinded tag without a point", blinded)
			blinded = made(o, false, true)
			blinded.a.Point = p
			refuse(t, "a blinded amount without a point, of an open tag", blinded)
		}
	}
	refuse(t, "0 that nothing blinds", made(nothing, false, true))
	refuse(t, "0 that nothing blinds, of a blinded tag", made(nothing, true, true))
}

// Tags and amounts of one asset, one open, one blinded, are not taken for one another.
func TestOpensOfAnotherKind(t *testing.T) {
	blinded := api.Opening{Asset: peg, Value: 5, Tag: firstK, Amount: secondK}
	for _, tag := range []bool{false, true} {
		for _, amount := range []bool{false, true} {
			k := made(blinded, tag, amount)
			if k.opens() != (tag && amount) {
				t.Errorf("P7.5: %+v", k)
			}
			k.o.Tag = none
			refuse(t, "what another scalar blinds", k)
		}
	}
	// The amount hides what it hides of the asset of its own tag.
	k := made(blinded, true, true)
	k.a.Point = commit.Value(5, curve.Generator(peg), secondK)
	refuse(t, "an amount of the asset that is not blinded", k)
	k = made(api.Opening{Asset: peg, Value: 5, Amount: secondK}, false, true)
	k.a.Point = commit.Value(5, commit.Asset(peg, firstK), secondK)
	refuse(t, "an amount of the asset that is blinded", k)
	k = made(blinded, true, true)
	k.t.Point, k.a.Point = k.a.Point, k.t.Point
	refuse(t, "a tag for an amount", k)
	k = made(blinded, true, true)
	k.t.Point = curve.Neg(k.t.Point)
	refuse(t, "the opposite of a tag", k)
	k = made(blinded, true, true)
	k.a.Point = curve.Neg(k.a.Point)
	refuse(t, "the opposite of an amount", k)
	k = made(blinded, true, false)
	k.o.Amount = none
	k.t.Point = level(k.t.Point)
	refuse(t, "a tag of the same Y", k)
	k = made(blinded, true, true)
	k.a.Point = level(k.a.Point)
	refuse(t, "an amount of the same Y", k)
}
