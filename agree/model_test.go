package agree_test

import (
	"math/rand/v2"
	"reflect"
	"testing"

	"seneschal/agree"
	"seneschal/api"
)

// history is a node that keeps all it counted, and looks through it for all that it says.
type history struct {
	n, t, me int
	input    string
	round    int
	counted  []agree.Message
	sent     []agree.Message
	decided  string
}

// take keeps m, if it counts.
func (h *history) take(m agree.Message) []agree.Message {
	switch {
	case m.Kind != proposal && m.Kind != vote && m.Kind != commit, m.From < 1, m.From > h.n, m.Round < 0, m.Round >= api.MaxRounds:
		return nil
	case len(m.Value) > api.MaxBytes, m.Value == "" && m.Kind != vote, m.Kind == proposal && m.From != leader(h.n, m.Round):
		return nil
	}
	for _, o := range h.counted {
		if o.Kind == m.Kind && o.From == m.From && o.Round == m.Round {
			return nil
		}
	}
	h.counted = append(h.counted, m)
	return h.say()
}

func (h *history) timeout() []agree.Message {
	if h.round == api.MaxRounds-1 {
		return nil
	}
	h.round++
	return h.say()
}

// enough answers the value of n - t messages of that kind and round that is not empty.
func (h *history) enough(kind, round int) (string, bool) {
	for _, m := range h.counted {
		many := 0
		for _, o := range h.counted {
			if o.Kind == kind && o.Round == round && o.Value == m.Value {
				many++
			}
		}
		if m.Value != "" && many >= h.n-h.t {
			return m.Value, true
		}
	}
	return "", false
}

// lock answers what the latest round that has its votes locks.
func (h *history) lock() (string, int, bool) {
	for round := api.MaxRounds - 1; round >= 0; round-- {
		if value, ok := h.enough(vote, round); ok {
			return value, round, true
		}
	}
	return "", 0, false
}

// did tells whether the node sent a message of that kind in its round.
func (h *history) did(kind int) bool {
	for _, m := range h.sent {
		if m.Kind == kind && m.Round == h.round {
			return true
		}
	}
	return false
}

func (h *history) say() []agree.Message {
	from := len(h.sent)
	send := func(kind int, value string) {
		h.sent = append(h.sent, agree.Message{Kind: kind, From: h.me, Round: h.round, Value: value})
	}
	for round := range api.MaxRounds {
		if value, ok := h.enough(commit, round); ok && h.decided == "" {
			h.decided = value
		}
	}
	if value, ok := h.enough(vote, h.round); ok && !h.did(commit) {
		send(commit, value)
	}
	value, _, locked := h.lock()
	if leader(h.n, h.round) == h.me && !h.did(proposal) {
		if locked {
			send(proposal, value)
		} else {
			send(proposal, h.input)
		}
	}
	for _, m := range h.counted {
		if m.Kind == proposal && m.Round == h.round && !h.did(vote) {
			if locked && m.Value != value {
				send(vote, "")
			} else {
				send(vote, m.Value)
			}
		}
	}
	return h.sent[from:]
}

func (h *history) look() state {
	s := state{round: h.round, decided: h.decided, did: h.decided != ""}
	s.lock, s.at, s.locked = h.lock()
	return s
}

// pair is a node, and its history.
type pair struct {
	x *agree.Node
	h *history
}

func newPair(t *testing.T, n, bound, me int) pair {
	t.Helper()
	x, l := begun(t, n, bound, me, "w")
	h := &history{n: n, t: bound, me: me, input: "w"}
	sent(t, "begun", l, h.say()...)
	return pair{x, h}
}

// step hands m on (or, of the kind 0 and the round -1, lets the time be over), and holds what both say against each other.
func (p pair) step(t *testing.T, m agree.Message) {
	t.Helper()
	var got, want []agree.Message
	if m.Kind == 0 && m.Round == -1 {
		got, want = p.x.Timeout(), p.h.timeout()
	} else {
		got, want = p.x.Take(m), p.h.take(m)
	}
	if len(got)+len(want) > 0 && !reflect.DeepEqual(got, want) {
		t.Fatalf("node %d of %d, t %d, behind %v, at %v: %v, want %v", p.h.me, p.h.n, p.h.t, p.h.counted, m, got, want)
	}
	if got, want := look(p.x), p.h.look(); got != want {
		t.Fatalf("node %d of %d, t %d, behind %v, at %v: told %+v, want %+v", p.h.me, p.h.n, p.h.t, p.h.counted, m, got, want)
	}
}

// 16.1, 16.2: whatever comes in whatever order, the node does as the chapter's words say.
func TestAgainstHistory(t *testing.T) {
	r := rand.New(rand.NewPCG(16, 1))
	sizes(func(n, bound int) {
		if n > 7 && n < 14 {
			return
		}
		for play := range 12 {
			p := newPair(t, n, bound, 1+r.IntN(n))
			values := []string{"a", "b", "", "w", long}[:1+r.IntN(5)]
			rounds := 1 + r.IntN(4)
			for range 5 * n {
				m := agree.Message{Kind: r.IntN(5), From: r.IntN(n + 2), Round: r.IntN(rounds+1) - r.IntN(2), Value: values[r.IntN(len(values))]}
				if play%3 > 0 && r.IntN(4) > 0 { // more votes and commits of the same value
					m = agree.Message{Kind: vote + r.IntN(2), From: 1 + r.IntN(n), Round: r.IntN(rounds), Value: values[0]}
				}
				if play%3 == 2 { // the lower half of the rounds of one value, the upper one of another
					m.Value = values[m.Round*len(values)/(rounds+1)&1%len(values)]
				}
				if r.IntN(2*n) == 0 {
					m = agree.Message{Round: -1}
				}
				if m.Kind == proposal && r.IntN(4) > 0 && m.Round >= 0 {
					m.From = leader(n, m.Round)
				}
				p.step(t, m)
			}
		}
	})
}

// 16.1, 16.2: whole rounds' votes come in any order, with times that are over between them.
func TestRoundsInAnyOrder(t *testing.T) {
	r := rand.New(rand.NewPCG(16, 2))
	for range 300 {
		n := []int{1, 2, 4, 5, 7}[r.IntN(5)]
		p := newPair(t, n, (n-1)/3, 1+r.IntN(n))
		var all []agree.Message
		for round := range 4 {
			value := []string{"a", "b", "w", ""}[r.IntN(4)]
			all = append(all, agree.Message{Round: -1}, agree.Message{Kind: proposal, From: leader(n, round), Round: round, Value: value})
			for from := 1; from <= n; from++ {
				all = append(all, agree.Message{Kind: vote, From: from, Round: round, Value: value}, agree.Message{Kind: commit, From: from, Round: round, Value: value})
			}
		}
		r.Shuffle(len(all), func(i, j int) { all[i], all[j] = all[j], all[i] })
		for _, m := range all {
			p.step(t, m)
		}
	}
}

// 16.1, 16.2: all sequences of five of a few messages, and of times that are over, at a node of two, of which none may be corrupt.
func TestAllShortHistories(t *testing.T) {
	all := []agree.Message{{Round: -1}}
	for round := range 2 {
		for from := 1; from <= 2; from++ {
			all = append(all, agree.Message{Kind: vote, From: from, Round: round, Value: string(rune('a' + round))})
		}
		all = append(all, agree.Message{Kind: proposal, From: leader(2, round), Round: round, Value: "a"})
	}
	all = append(all, agree.Message{Kind: commit, From: 1, Value: "a"}, agree.Message{Kind: commit, From: 2, Value: "a"})
	var past [5]agree.Message
	var walk func(many int)
	walk = func(many int) {
		if many == len(past) {
			p := newPair(t, 2, 0, 2)
			for _, m := range past {
				p.step(t, m)
			}
			return
		}
		for _, m := range all {
			past[many] = m
			walk(many + 1)
		}
	}
	walk(0)
}
