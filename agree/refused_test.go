package agree_test

import (
	"math"
	"strings"
	"testing"

	"seneschal/agree"
	"seneschal/api"
)

var long = strings.Repeat("x", api.MaxBytes+1)

// 16.1: Make takes just these numbers: n from 3 t and 1 to MaxNodes, t to MaxTol, a node of the n.
func TestMakeAll(t *testing.T) {
	for n := -1; n <= api.MaxNodes+2; n++ {
		for bound := -1; bound <= api.MaxTol+1; bound++ {
			for me := -1; me <= n+1; me++ {
				may := n >= 3*bound+1 && n <= api.MaxNodes && bound >= 0 && bound <= api.MaxTol && me >= 1 && me <= n
				x, e := agree.Make(n, bound, me, "v")
				if (x != nil) != may || (e == api.OK) != may || !may && e != api.ErrArg {
					t.Errorf("Make(%d, %d, %d): error %d", n, bound, me, e)
				}
			}
		}
	}
}

// 16.1: numbers far beyond, and texts at their edges: what may not be is told ahead of what is too long.
func TestMakeRefused(t *testing.T) {
	far := []int{math.MinInt, math.MinInt / 3, -1 << 32, -17, -1, 17, 1 << 32, 1<<32 + 1, math.MaxInt / 3, math.MaxInt/3 + 1, math.MaxInt}
	for _, no := range far {
		for _, l := range [][3]int{{no, 1, 1}, {4, no, 1}, {4, 1, no}, {no, no, no}, {no, 0, 1}, {16, no, 1}} {
			for _, input := range []string{"", "v", long} {
				if x, e := agree.Make(l[0], l[1], l[2], input); x != nil || e != api.ErrArg {
					t.Errorf("Make%v: %v, error %d", l, x, e)
				}
			}
		}
	}
	for input, want := range map[string]api.Errno{"": api.ErrArg, "\x00": api.OK, long[2:]: api.OK, long[1:]: api.OK, long: api.ErrLong, long + long: api.ErrLong} {
		if x, e := agree.Make(4, 1, 1, input); e != want || (x != nil) != (want == api.OK) {
			t.Errorf("an input of %d bytes: error %d, want %d", len(input), e, want)
		}
	}
}

// 16.1: as long an input as may be is proposed whole, and decided.
func TestLongest(t *testing.T) {
	x, l := begun(t, 1, 0, 1, long[1:])
	sent(t, "the proposal", l, agree.Message{Kind: proposal, From: 1, Value: long[1:]})
	for range 3 {
		if len(l) != 1 {
			t.Fatalf("%d messages", len(l))
		}
		l = x.Take(l[0])
	}
	is(t, "alone", x, state{0, long[1:], 0, true, long[1:], true})
}

// Rule 2: of a node that no call made (which did not begin, either).
func TestNoNode(t *testing.T) {
	for _, x := range []*agree.Node{nil, {}, new(agree.Node)} {
		for range 2 {
			if l, e := x.Begin(); len(l) != 0 || e != api.ErrNil {
				t.Errorf("Begin: %v, error %d", l, e)
			}
			for kind := range 5 {
				for from := range 3 {
					sent(t, "Take", takes(x, kind, 0, "v", from, from))
				}
			}
			sent(t, "Timeout", x.Timeout())
			is(t, "no node", x, state{round: -1})
		}
	}
}

// 16.1: a node begins once; a second beginning changes nothing.
func TestBeginAgain(t *testing.T) {
	x, _ := begun(t, 4, 1, 1, "v")
	again := func(want state) {
		t.Helper()
		if l, e := x.Begin(); len(l) != 0 || e != api.ErrSame {
			t.Errorf("again: %v, error %d", l, e)
		}
		is(t, "again", x, want)
	}
	again(state{})
	sent(t, "its proposal", propose(x, 4, 0, "v"), agree.Message{Kind: vote, From: 1, Value: "v"})
	again(state{})
	takes(x, vote, 0, "v", 1, 3)
	again(state{lock: "v", locked: true})
	takes(x, commit, 0, "v", 1, 3)
	x.Timeout()
	again(state{1, "v", 0, true, "v", true})
}

// bad answers messages that may not be, to a node of four, in rounds that node 1 leads.
func bad() []agree.Message {
	var out []agree.Message
	for _, kind := range []int{math.MinInt, -1, 0, 4, 1 << 32, 1<<32 + 1, 1<<32 + 2, 1<<32 + 3, 256 + 2, math.MaxInt} {
		for from := 1; from <= 4; from++ {
			out = append(out, agree.Message{Kind: kind, From: from, Value: "u"})
		}
	}
	for kind := proposal; kind <= commit; kind++ {
		for _, from := range []int{math.MinInt, -1, 0, 5, 16, 17, 1 << 32, 1<<32 + 1, math.MaxInt} {
			out = append(out, agree.Message{Kind: kind, From: from, Value: "u"})
		}
		for from := 1; from <= 4; from++ {
			for _, round := range []int{math.MinInt, -1 << 32, -4, -1, 64, 65, 68, 1 << 32, 1<<32 + 4, math.MaxInt} {
				out = append(out, agree.Message{Kind: kind, From: from, Round: round, Value: "u"})
			}
			out = append(out, agree.Message{Kind: kind, From: from, Value: long})
			if kind != vote {
				out = append(out, agree.Message{Kind: kind, From: from})
			}
		}
	}
	for from := 2; from <= 4; from++ {
		out = append(out, agree.Message{Kind: proposal, From: from, Value: "u"})
	}
	return out
}

// 16.1, P2: messages that may not be are let go: they send nothing, and stand in nobody's way.
func TestLetGo(t *testing.T) {
	x, _ := begun(t, 4, 1, 3, "w")
	for range 3 {
		for _, m := range bad() {
			if l := x.Take(m); len(l) != 0 {
				t.Errorf("kind %d from %d, round %d, %d bytes: %v", m.Kind, m.From, m.Round, len(m.Value), l)
			}
		}
	}
	is(t, "let go", x, state{})
	sent(t, "the proposal", propose(x, 4, 0, "v"), agree.Message{Kind: vote, From: 3, Value: "v"})
	sent(t, "votes", takes(x, vote, 0, "v", 1, 3), agree.Message{Kind: commit, From: 3, Value: "v"})
	sent(t, "commits", takes(x, commit, 0, "v", 1, 3))
	is(t, "decided", x, state{0, "v", 0, true, "v", true})
}

// 16.1: nodes and rounds at their edges are some, and so are the longest values.
func TestEdges(t *testing.T) {
	n, last := api.MaxNodes, api.MaxRounds-1
	x, _ := begun(t, n, api.MaxTol, n, "w")
	takes(x, vote, last, long[1:], api.MaxTol+1, n)
	takes(x, commit, last, long[1:], api.MaxTol+1, n)
	is(t, "the last ones", x, state{0, long[1:], last, true, long[1:], true})
	for from := 1; from <= n; from++ { // of the last round just one is the leader
		y, _ := begun(t, n, api.MaxTol, 1, "w")
		for range last {
			y.Timeout()
		}
		l := y.Take(agree.Message{Kind: proposal, From: from, Round: last, Value: long[1:]})
		if (len(l) == 1) != (from == last%n+1) {
			t.Errorf("a proposal from %d: %d messages", from, len(l))
		}
	}
}

// Rule 5: a lock and a decision that there are none of come with nothing.
func TestNothingBesideFalse(t *testing.T) {
	x, _ := begun(t, 4, 1, 2, "w")
	x.Timeout()
	takes(x, vote, 1, "v", 1, 2)
	takes(x, commit, 1, "v", 1, 2)
	propose(x, 4, 1, "v")
	is(t, "too few", x, state{round: 1})
}
