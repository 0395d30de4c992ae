package cast_test

import (
	"math"
	"strings"
	"testing"

	"seneschal/api"
	"seneschal/cast"
)

// 15.1: Make's numbers, at their edges and far beyond.
func TestMakeRefused(t *testing.T) {
	far := []int{math.MinInt, math.MinInt / 3, -1 << 32, -17, -1, 0, 17, 1 << 32, 1<<32 + 1, math.MaxInt / 3, math.MaxInt/3 + 1, math.MaxInt}
	for _, no := range far {
		for _, l := range [][4]int{{no, 1, 1, 1}, {4, no, 1, 1}, {4, 1, no, 1}, {4, 1, 1, no}, {no, no, no, no}, {no, 0, 1, 1}, {16, no, 1, 1}} {
			if l == [4]int{4, 0, 1, 1} || l == [4]int{16, 0, 1, 1} {
				continue
			}
			if x, e := cast.Make(l[0], l[1], l[2], l[3]); x != nil || e != api.ErrArg {
				t.Errorf("Make%v: %v, error %d", l, x, e)
			}
		}
	}
}

// 15.1: Make takes just these numbers: n from 3 t and 1 to MaxNodes, t to MaxTol, nodes of the n.
func TestMakeAll(t *testing.T) {
	for n := -1; n <= api.MaxNodes+2; n++ {
		for bound := -1; bound <= api.MaxTol+1; bound++ {
			for me := -1; me <= n+1; me++ {
				for dealer := -1; dealer <= n+1; dealer++ {
					may := n >= 3*bound+1 && n <= api.MaxNodes && bound >= 0 && bound <= api.MaxTol && me >= 1 && me <= n && dealer >= 1 && dealer <= n
					x, e := cast.Make(n, bound, me, dealer)
					if (x != nil) != may || (e == api.OK) != may || !may && e != api.ErrArg {
						t.Errorf("Make(%d, %d, %d, %d): error %d", n, bound, me, dealer, e)
					}
				}
			}
		}
	}
}

// Rule 2: of a node that no call made.
func TestNoNode(t *testing.T) {
	for _, x := range []*cast.Node{nil, {}, new(cast.Node)} {
		for _, v := range []string{"", "v", strings.Repeat("x", api.MaxBytes+1)} {
			if m, e := x.Start(v); m != (cast.Message{}) || e != api.ErrNil {
				t.Errorf("Start: %v, error %d", m, e)
			}
		}
		for kind := range 5 {
			for from := range 3 {
				if l := x.Take(cast.Message{Kind: kind, From: from, Value: "v"}); len(l) != 0 {
					t.Errorf("Take: %v", l)
				}
			}
		}
		if got := look(x); got != (state{}) {
			t.Errorf("told %v", got)
		}
	}
}

// 15.1: Start's errors, in their order.
func TestStartRefused(t *testing.T) {
	long := strings.Repeat("x", api.MaxBytes+1)
	other := made(t, 4, 1, 2, 1)
	for _, v := range []string{"", "v", long} {
		if m, e := other.Start(v); m != (cast.Message{}) || e != api.ErrCast {
			t.Errorf("not the dealer: %v, error %d", m, e)
		}
	}
	x := made(t, 4, 1, 1, 1)
	if m, e := x.Start(long); m != (cast.Message{}) || e != api.ErrLong {
		t.Errorf("too long: %v, error %d", m, e)
	}
	if m, e := x.Start(long[1:]); m.Value != long[1:] || e != api.OK { // what was refused began nothing
		t.Errorf("as long as may be: error %d", e)
	}
	for _, v := range []string{"", "v", long[1:]} {
		if m, e := x.Start(v); m != (cast.Message{}) || e != api.ErrSame {
			t.Errorf("again: %v, error %d", m, e)
		}
	}
	if m, e := x.Start(long); m != (cast.Message{}) || e != api.ErrLong {
		t.Errorf("again, too long: %v, error %d", m, e)
	}
	if got := look(x); got != (state{}) {
		t.Errorf("told %v", got)
	}
}

// 15.1: a start that came in is no start that was sent: the dealer may still begin, but a second start is let go.
func TestStartAfterMessages(t *testing.T) {
	x := made(t, 4, 1, 1, 1)
	x.Take(cast.Message{Kind: start, From: 1, Value: "a"})
	for from := 1; from <= 4; from++ {
		x.Take(cast.Message{Kind: ready, From: from, Value: "a"})
	}
	m, e := x.Start("b")
	if m != (cast.Message{Kind: start, From: 1, Value: "b"}) || e != api.OK {
		t.Errorf("the start: %v, error %d", m, e)
	}
	if l := x.Take(m); len(l) != 0 {
		t.Errorf("a second start: %v", l)
	}
}

// 15.1, P2: messages that may not be are let go: they send nothing, and stand in nobody's way.
func TestLetGo(t *testing.T) {
	long := strings.Repeat("x", api.MaxBytes+1)
	var bad []cast.Message
	for _, kind := range []int{math.MinInt, -1, 0, 4, 1 << 32, 1<<32 + 1, 1<<32 + 2, 1<<32 + 3, 256 + 2, math.MaxInt} {
		for from := 1; from <= 4; from++ {
			bad = append(bad, cast.Message{Kind: kind, From: from, Value: "w"})
		}
	}
	for kind := start; kind <= ready; kind++ {
		for _, from := range []int{math.MinInt, -1, 0, 5, 16, 17, 1<<32 + 3, 1 << 32, math.MaxInt} {
			bad = append(bad, cast.Message{Kind: kind, From: from, Value: "w"})
		}
		for from := 1; from <= 4; from++ {
			bad = append(bad, cast.Message{Kind: kind, From: from, Value: long})
		}
	}
	for _, from := range []int{1, 2, 4} { // the dealer is 3
		bad = append(bad, cast.Message{Kind: start, From: from, Value: "w"})
	}
	x := made(t, 4, 1, 1, 3)
	for range 3 {
		for _, m := range bad {
			if l := x.Take(m); len(l) != 0 {
				t.Errorf("kind %d from %d, %d bytes: %v", m.Kind, m.From, len(m.Value), l)
			}
		}
	}
	if got := look(x); got != (state{}) {
		t.Errorf("told %v", got)
	}
	sent := 0
	sent += len(x.Take(cast.Message{Kind: start, From: 3, Value: "v"}))
	for kind := echo; kind <= ready; kind++ {
		for from := 1; from <= 3; from++ {
			sent += len(x.Take(cast.Message{Kind: kind, From: from, Value: "v"}))
		}
	}
	if got := look(x); sent != 2 || got != (state{"v", "v", "v", true, true, true}) {
		t.Errorf("%d sent, told %v", sent, got)
	}
}

// The greatest broadcast, and the least: numbers at their edges are nodes.
func TestNodesAtTheEdges(t *testing.T) {
	x := made(t, api.MaxNodes, api.MaxTol, api.MaxNodes, 1)
	for from := api.MaxNodes; from > api.MaxNodes-2*api.MaxTol; from-- {
		x.Take(cast.Message{Kind: ready, From: from, Value: "v"})
	}
	if _, ok := x.Value(); ok {
		t.Errorf("delivered by %d", 2*api.MaxTol)
	}
	x.Take(cast.Message{Kind: ready, From: 1, Value: "v"})
	if v, ok := x.Value(); v != "v" || !ok {
		t.Errorf("delivered %q, %v", v, ok)
	}
	alone := made(t, 1, 0, 1, 1)
	m, _ := alone.Start("v")
	if all := run([]*cast.Node{alone}, []cast.Message{m}); len(all) != 3 {
		t.Errorf("alone: %v", all)
	}
	if v, ok := alone.Value(); v != "v" || !ok {
		t.Errorf("alone: delivered %q, %v", v, ok)
	}
	y := made(t, 2, 0, 1, 2) // where none is corrupt one ready is enough, ahead of all else
	if got, want := one(t, y.Take(cast.Message{Kind: ready, From: 2, Value: "v"})), (cast.Message{Kind: ready, From: 1, Value: "v"}); got != want {
		t.Errorf("one ready of two nodes: %v, want %v", got, want)
	}
	if got := look(y); got != (state{"v", "", "v", true, false, true}) {
		t.Errorf("one ready of two nodes: told %v", got)
	}
}
