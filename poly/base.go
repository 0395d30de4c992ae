package poly

import (
	"strconv"

	"seneschal/api"
	"seneschal/limb"
	"seneschal/mod"
)

// base is what points at some X have in common, whatever their Y and the place that is asked for.
type base struct {
	q       api.Nat
	xs      []api.Nat
	divided []api.Nat // of each X: 1 by its distance from the others
}

// baseOf answers the base of points at xs, or what is wrong with these; q is at least 2.
func baseOf(q api.Nat, xs ...api.Nat) (base, error) {
	divided := make([]api.Nat, len(xs))
	for i, x := range xs {
		inverse, e := mod.Inverse(distance(q, i, xs), q)
		if e != api.OK { // of two X that are the same, too: their distance is nought
			return base{}, fault{"X " + limb.Text(x), fault{"its distance from the others has no inverse", api.ErrShare}}
		}
		divided[i] = inverse
	}
	return base{q, xs, divided}, nil
}

// distance answers the product of what the X number i is less each of the others.
func distance(q api.Nat, i int, xs []api.Nat) api.Nat {
	out := limb.Of(1)
	for j, x := range xs {
		if j != i {
			out = times(q, out, minus(q, xs[i], x))
		}
	}
	return out
}

// factors answers the factors at the place.
func (b base) factors(at api.Nat) []api.Nat {
	out := make([]api.Nat, len(b.xs))
	// What the place is less the X ahead of one, and then less those behind it, is gathered going along:
	// to multiply it anew for each X would take as many times longer as there are X.
	ahead, behind := limb.Of(1), limb.Of(1)
	for i, x := range b.xs {
		out[i] = times(b.q, b.divided[i], ahead)
		ahead = times(b.q, ahead, minus(b.q, at, x))
	}
	for k := range b.xs {
		i := len(b.xs) - 1 - k
		out[i] = times(b.q, out[i], behind)
		behind = times(b.q, behind, minus(b.q, at, b.xs[i]))
	}
	return out
}

// sum answers what the points come to at the place; it is their base.
func (b base) sum(at api.Nat, l ...Point) api.Nat {
	out := api.Nat{}
	for i, f := range b.factors(at) {
		out, _ = mod.Add(out, times(b.q, f, l[i].Y), b.q)
	}
	return out
}

// apart tells which two X are the same modulo q.
func apart(q api.Nat, xs ...api.Nat) error {
	seen := make(map[api.Nat]int, len(xs))
	for i, x := range xs {
		x = reduced(q, x)
		if first, ok := seen[x]; ok {
			return fault{"X " + limb.Text(x), fault{strconv.Itoa(first) + " and " + strconv.Itoa(i) + " are the same", api.ErrShare}}
		}
		seen[x] = i
	}
	return nil
}

// times answers a product modulo q, which is not nought.
func times(q, a, b api.Nat) api.Nat {
	out, _ := mod.Mul(a, b, q)
	return out
}

// minus answers a difference modulo q, which is not nought.
func minus(q, a, b api.Nat) api.Nat {
	out, _ := mod.Sub(a, b, q)
	return out
}
