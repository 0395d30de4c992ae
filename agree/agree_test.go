package agree_test

import (
	"reflect"
	"testing"

	"seneschal/agree"
	"seneschal/api"
)

const (
	proposal = 1
	vote     = 2
	commit   = 3
)

// made answers a node that did not begin, which must be one.
func made(t *testing.T, n, bound, me int, input string) *agree.Node {
	t.Helper()
	x, e := agree.Make(n, bound, me, input)
	if x == nil || e != api.OK {
		t.Fatalf("Make(%d, %d, %d, %q): %v, error %d", n, bound, me, input, x, e)
	}
	return x
}

// begun answers a node that began, and what it sent then.
func begun(t *testing.T, n, bound, me int, input string) (*agree.Node, []agree.Message) {
	t.Helper()
	x := made(t, n, bound, me, input)
	l, e := x.Begin()
	if e != api.OK {
		t.Fatalf("Begin of node %d of %d: error %d", me, n, e)
	}
	return x, l
}

// sizes calls f with each n and bound that may be.
func sizes(f func(n, bound int)) {
	for bound := 0; bound <= api.MaxTol; bound++ {
		for n := 3*bound + 1; n <= api.MaxNodes; n++ {
			f(n, bound)
		}
	}
}

// sent holds what was sent against what should be; none may be nil or empty.
func sent(t *testing.T, what string, got []agree.Message, want ...agree.Message) {
	t.Helper()
	if len(got)+len(want) > 0 && !reflect.DeepEqual(got, want) {
		t.Errorf("%s: sent %v, want %v", what, got, want)
	}
}

// state is all that a node tells of itself.
type state struct {
	round   int
	lock    string
	at      int
	locked  bool
	decided string
	did     bool
}

func look(x *agree.Node) state {
	s := state{round: x.Round()}
	s.lock, s.at, s.locked = x.Lock()
	s.decided, s.did = x.Decided()
	return s
}

// is holds what a node tells against what it should.
func is(t *testing.T, what string, x *agree.Node, want state) {
	t.Helper()
	if got := look(x); got != want {
		t.Errorf("%s: told %+v, want %+v", what, got, want)
	}
}

// takes hands the node messages of one kind, round and value from the nodes first to last, and answers all that it sent.
func takes(x *agree.Node, kind, round int, value string, first, last int) []agree.Message {
	var out []agree.Message
	for from := first; from <= last; from++ {
		out = append(out, x.Take(agree.Message{Kind: kind, From: from, Round: round, Value: value})...)
	}
	return out
}

// leader answers who leads a round.
func leader(n, round int) int { return round%n + 1 }

// propose hands the node the proposal of a round's leader.
func propose(x *agree.Node, n, round int, value string) []agree.Message {
	return x.Take(agree.Message{Kind: proposal, From: leader(n, round), Round: round, Value: value})
}

// The chapter's example: the proposal of node 1, four votes, four commits.
func TestExample(t *testing.T) {
	var nodes []*agree.Node
	var waiting, all []agree.Message
	for me := 1; me <= 4; me++ {
		x, l := begun(t, 4, 1, me, string(rune('a'+me-1)))
		nodes, waiting = append(nodes, x), append(waiting, l...)
	}
	for len(waiting) > 0 {
		m := waiting[0]
		waiting, all = waiting[1:], append(all, m)
		for _, x := range nodes {
			waiting = append(waiting, x.Take(m)...)
		}
	}
	want := []agree.Message{{Kind: proposal, From: 1, Value: "a"}}
	for kind := vote; kind <= commit; kind++ {
		for me := 1; me <= 4; me++ {
			want = append(want, agree.Message{Kind: kind, From: me, Value: "a"})
		}
	}
	sent(t, "all", all, want...)
	for _, x := range nodes {
		is(t, "at the end", x, state{0, "a", 0, true, "a", true})
	}
}

// 16.1, 16.2: a node that was made did not begin; begun, it is in the round 0, and node 1 proposes its input.
func TestBegin(t *testing.T) {
	sizes(func(n, bound int) {
		for me := 1; me <= n; me++ {
			x := made(t, n, bound, me, "v")
			is(t, "made", x, state{round: -1})
			l, e := x.Begin()
			if e != api.OK {
				t.Errorf("Begin: error %d", e)
			}
			if me == 1 {
				sent(t, "the leader", l, agree.Message{Kind: proposal, From: 1, Value: "v"})
			} else {
				sent(t, "no leader", l)
			}
			is(t, "begun", x, state{})
		}
	})
}

// 16.1: what comes to a node that did not begin is not counted, and does not stand in the way of what comes behind it.
func TestNothingAheadOfBeginning(t *testing.T) {
	x := made(t, 4, 1, 2, "w")
	for range 2 {
		sent(t, "a proposal", propose(x, 4, 0, "u"))
		for kind := vote; kind <= commit; kind++ {
			sent(t, "ahead of it", takes(x, kind, 0, "u", 1, 4))
		}
		sent(t, "the time", x.Timeout())
		is(t, "ahead of it", x, state{round: -1})
	}
	l, e := x.Begin()
	sent(t, "begun", l)
	if e != api.OK {
		t.Errorf("Begin: error %d", e)
	}
	is(t, "begun", x, state{})
	sent(t, "the proposal", propose(x, 4, 0, "v"), agree.Message{Kind: vote, From: 2, Value: "v"})
	sent(t, "votes", takes(x, vote, 0, "v", 1, 3), agree.Message{Kind: commit, From: 2, Value: "v"})
	sent(t, "commits", takes(x, commit, 0, "v", 1, 3))
	is(t, "decided", x, state{0, "v", 0, true, "v", true})
}

// 16.1: each round has one leader, who proposes its input as soon as it is in it; the last round is not left.
func TestLeaders(t *testing.T) {
	sizes(func(n, bound int) {
		for me := 1; me <= n; me++ {
			x, l := begun(t, n, bound, me, "v")
			for round := range api.MaxRounds {
				if me == leader(n, round) {
					sent(t, "the leader", l, agree.Message{Kind: proposal, From: me, Round: round, Value: "v"})
				} else {
					sent(t, "no leader", l)
				}
				is(t, "in a round", x, state{round: round})
				l = x.Timeout()
			}
			sent(t, "behind the last one", l)
			sent(t, "again", x.Timeout())
			is(t, "in the last round", x, state{round: api.MaxRounds - 1})
		}
	})
}

// 16.1: in the last round all goes on as in any other.
func TestLastRound(t *testing.T) {
	x, _ := begun(t, 4, 1, 2, "w")
	last := api.MaxRounds - 1
	for range api.MaxRounds + 3 {
		x.Timeout()
	}
	sent(t, "the proposal", propose(x, 4, last, "v"), agree.Message{Kind: vote, From: 2, Round: last, Value: "v"})
	sent(t, "votes", takes(x, vote, last, "v", 1, 3), agree.Message{Kind: commit, From: 2, Round: last, Value: "v"})
	sent(t, "commits", takes(x, commit, last, "v", 1, 3))
	sent(t, "the time", x.Timeout())
	is(t, "decided", x, state{last, "v", last, true, "v", true})
}

// 16.1, 16.2: votes lock and commits decide when just n - t nodes sent them, for each n and t.
func TestThresholds(t *testing.T) {
	sizes(func(n, bound int) {
		for _, first := range []int{1, bound + 1} { // the first n - t nodes, and the last ones
			enough := first + n - bound - 1
			x, _ := begun(t, n, bound, n, "w")
			sent(t, "too few votes", takes(x, vote, 0, "v", first, enough-1))
			is(t, "too few votes", x, state{})
			sent(t, "enough", takes(x, vote, 0, "v", enough, enough), agree.Message{Kind: commit, From: n, Value: "v"})
			is(t, "enough", x, state{lock: "v", locked: true})
			sent(t, "more", takes(x, vote, 0, "v", 1, n))
			is(t, "more", x, state{lock: "v", locked: true})
			sent(t, "too few commits", takes(x, commit, 0, "v", first, enough-1))
			is(t, "too few commits", x, state{lock: "v", locked: true})
			sent(t, "enough commits", takes(x, commit, 0, "v", enough, enough))
			is(t, "enough commits", x, state{0, "v", 0, true, "v", true})
		}
	})
}

// 16.1: votes and commits of another value, another round, another kind do not count together.
func TestCountsApart(t *testing.T) {
	for kind := vote; kind <= commit; kind++ {
		x, _ := begun(t, 4, 1, 2, "w")
		sent(t, "two of v", takes(x, kind, 0, "v", 1, 2))
		sent(t, "of another value", takes(x, kind, 0, "u", 3, 3))
		sent(t, "of another round", takes(x, kind, 1, "v", 3, 3))
		sent(t, "of another kind", takes(x, vote+commit-kind, 0, "v", 3, 4))
		is(t, "two of v", x, state{})
		takes(x, kind, 0, "v", 4, 4)
		if got := look(x); got.locked != (kind == vote) || got.did != (kind == commit) {
			t.Errorf("three of v, of kind %d: told %+v", kind, got)
		}
	}
}

// 16.1: of each sender, round and kind the first message alone counts.
func TestFirstAlone(t *testing.T) {
	for kind := vote; kind <= commit; kind++ {
		x, _ := begun(t, 4, 1, 2, "w")
		for range 4 {
			sent(t, "from one", takes(x, kind, 0, "v", 1, 1))
		}
		sent(t, "from another", takes(x, kind, 0, "u", 3, 3))
		sent(t, "which turned", takes(x, kind, 0, "v", 3, 3))
		sent(t, "a third one", takes(x, kind, 0, "v", 4, 4))
		is(t, "two of v", x, state{})
		takes(x, kind, 0, "v", 2, 2)
		if got := look(x); got.locked != (kind == vote) || got.did != (kind == commit) {
			t.Errorf("three of v, of kind %d: told %+v", kind, got)
		}
	}
	x, _ := begun(t, 4, 1, 2, "w")
	sent(t, "a proposal", propose(x, 4, 0, "v"), agree.Message{Kind: vote, From: 2, Value: "v"})
	sent(t, "another", propose(x, 4, 0, "u"))
	sent(t, "again", propose(x, 4, 0, "v"))
	sent(t, "one ahead", propose(x, 4, 2, "v"))
	sent(t, "another ahead", propose(x, 4, 2, "u"))
	sent(t, "round 1", x.Timeout(), agree.Message{Kind: proposal, From: 2, Round: 1, Value: "w"})
	sent(t, "round 2", x.Timeout(), agree.Message{Kind: vote, From: 2, Round: 2, Value: "v"})
}

// 16.1: an empty vote counts as its sender's first one, and the empty value is neither locked nor decided.
func TestEmptyVotes(t *testing.T) {
	x, _ := begun(t, 4, 1, 2, "w")
	sent(t, "empty votes", takes(x, vote, 0, "", 1, 2))
	sent(t, "of a value", takes(x, vote, 0, "v", 1, 4))
	is(t, "two of a value", x, state{})
	sent(t, "empty votes", takes(x, vote, 1, "", 1, 4))
	sent(t, "round 1", x.Timeout(), agree.Message{Kind: proposal, From: 2, Round: 1, Value: "w"})
	is(t, "all empty", x, state{round: 1})
	sent(t, "empty commits", takes(x, commit, 1, "", 1, 4))
	sent(t, "an empty proposal", propose(x, 4, 1, ""))
	is(t, "all empty", x, state{round: 1})
	sent(t, "an empty proposal was none", propose(x, 4, 1, "v"), agree.Message{Kind: vote, From: 2, Round: 1, Value: "v"})
	takes(x, commit, 1, "v", 1, 3)
	is(t, "empty commits were none", x, state{1, "", 0, false, "v", true})
}

// 16.1: a node votes the proposal's value, if it has no lock, or one of that value; else it votes the empty value.
func TestVotes(t *testing.T) {
	for _, c := range []struct{ lock, proposed, voted string }{{"", "v", "v"}, {"v", "v", "v"}, {"u", "v", ""}, {"v", "w", ""}, {"w", "w", "w"}, {"", "w", "w"}} {
		x, _ := begun(t, 4, 1, 3, "w")
		if c.lock != "" {
			sent(t, "the lock", takes(x, vote, 0, c.lock, 1, 3), agree.Message{Kind: commit, From: 3, Value: c.lock})
		}
		want := agree.Message{Kind: vote, From: 3, Value: c.proposed}
		if c.voted == "" {
			want.Value = ""
		}
		sent(t, "in the lock's round", propose(x, 4, 0, c.proposed), want)
		sent(t, "the next round", x.Timeout())
		want.Round = 1
		sent(t, "in the next round", propose(x, 4, 1, c.proposed), want)
		want.Round = 3
		x.Timeout()
		sent(t, "ahead of its round", propose(x, 4, 3, c.proposed))
		sent(t, "its round", x.Timeout(), want)
	}
}

// 16.1: a proposal of a round that is over is not voted, nor is one twice.
func TestLateProposals(t *testing.T) {
	x, _ := begun(t, 4, 1, 3, "w")
	x.Timeout()
	sent(t, "of round 0", propose(x, 4, 0, "v"))
	sent(t, "of round 1", propose(x, 4, 1, "v"), agree.Message{Kind: vote, From: 3, Round: 1, Value: "v"})
	sent(t, "again", propose(x, 4, 1, "v"))
	sent(t, "round 2", x.Timeout(), agree.Message{Kind: proposal, From: 3, Round: 2, Value: "w"})
	sent(t, "of round 1, again", propose(x, 4, 1, "v"))
}

// 16.1: a leader proposes its lock's value, or its input; votes that make a lock later do not make it propose again.
func TestLeadersLock(t *testing.T) {
	x, _ := begun(t, 4, 1, 2, "w")
	takes(x, vote, 0, "v", 1, 3)
	sent(t, "its lock", x.Timeout(), agree.Message{Kind: proposal, From: 2, Round: 1, Value: "v"})
	y, _ := begun(t, 4, 1, 2, "w")
	sent(t, "its input", y.Timeout(), agree.Message{Kind: proposal, From: 2, Round: 1, Value: "w"})
	sent(t, "votes of round 0", takes(y, vote, 0, "v", 1, 4))
	is(t, "a late lock", y, state{round: 1, lock: "v", locked: true})
	sent(t, "its own proposal", propose(y, 4, 1, "w"), agree.Message{Kind: vote, From: 2, Round: 1})
}

// 16.2: a lock gives way to one of a later round alone, whatever round the node is in.
func TestLocks(t *testing.T) {
	x, _ := begun(t, 4, 1, 4, "w")
	x.Timeout()
	x.Timeout()
	steps := []struct {
		round int
		value string
		want  state
	}{
		{1, "a", state{round: 2, lock: "a", at: 1, locked: true}},
		{0, "b", state{round: 2, lock: "a", at: 1, locked: true}},
		{5, "c", state{round: 2, lock: "c", at: 5, locked: true}},
		{4, "d", state{round: 2, lock: "c", at: 5, locked: true}},
		{6, "c", state{round: 2, lock: "c", at: 6, locked: true}},
		{63, "e", state{round: 2, lock: "e", at: 63, locked: true}},
		{62, "f", state{round: 2, lock: "e", at: 63, locked: true}},
	}
	for _, s := range steps {
		sent(t, "votes of other rounds", takes(x, vote, s.round, s.value, 1, 4))
		is(t, s.value, x, s.want)
	}
}

// 16.1: what has its votes in the node's round is committed, by a node with a later lock, too; not twice.
func TestCommitsByLaterLock(t *testing.T) {
	x, _ := begun(t, 4, 1, 4, "w")
	sent(t, "of round 2", takes(x, vote, 2, "b", 1, 3))
	sent(t, "of round 0", takes(x, vote, 0, "a", 1, 3), agree.Message{Kind: commit, From: 4, Value: "a"})
	sent(t, "one more", takes(x, vote, 0, "a", 4, 4))
	is(t, "the later lock", x, state{lock: "b", at: 2, locked: true})
}

// 16.1, 16.5: votes that came ahead of their round are committed as soon as the node is in it: ahead of what the round says.
func TestCommitsOnEntering(t *testing.T) {
	x, _ := begun(t, 4, 1, 2, "w")
	sent(t, "a proposal of round 1", propose(x, 4, 1, "u"))
	sent(t, "votes of round 1", takes(x, vote, 1, "v", 1, 4))
	is(t, "votes of round 1", x, state{lock: "v", at: 1, locked: true})
	sent(t, "round 1", x.Timeout(), agree.Message{Kind: commit, From: 2, Round: 1, Value: "v"}, agree.Message{Kind: proposal, From: 2, Round: 1, Value: "v"}, agree.Message{Kind: vote, From: 2, Round: 1})
	sent(t, "again", takes(x, vote, 1, "v", 1, 4))
	sent(t, "round 2", x.Timeout())
	sent(t, "votes of a round that is over", takes(x, vote, 0, "v", 1, 4))
}

// 16.2: a node decides once, in whatever round the commits are, and whatever it did itself; it goes on behind that.
func TestDecides(t *testing.T) {
	for _, round := range []int{0, 1, 2, 3, 63} {
		x, _ := begun(t, 4, 1, 3, "w")
		x.Timeout()
		sent(t, "commits", takes(x, commit, round, "v", 1, 3))
		is(t, "commits", x, state{1, "", 0, false, "v", true})
		sent(t, "of another round", takes(x, commit, 5, "u", 1, 4))
		is(t, "of another round", x, state{1, "", 0, false, "v", true})
		sent(t, "round 2", x.Timeout(), agree.Message{Kind: proposal, From: 3, Round: 2, Value: "w"})
		sent(t, "its proposal", propose(x, 4, 2, "w"), agree.Message{Kind: vote, From: 3, Round: 2, Value: "w"})
		sent(t, "votes", takes(x, vote, 2, "w", 2, 4), agree.Message{Kind: commit, From: 3, Round: 2, Value: "w"})
		is(t, "at the end", x, state{2, "w", 2, true, "v", true})
	}
}

// Rule 4: what was answered is the caller's own.
func TestAnswersOwn(t *testing.T) {
	x, l := begun(t, 4, 1, 1, "a")
	l[0] = agree.Message{Kind: 9, Value: "b"}
	_ = append(l, agree.Message{Kind: 7})
	v := propose(x, 4, 0, "a")
	sent(t, "the vote", v, agree.Message{Kind: vote, From: 1, Value: "a"})
	v[0].Value = "c"
	sent(t, "votes", takes(x, vote, 0, "a", 1, 3), agree.Message{Kind: commit, From: 1, Value: "a"})
	is(t, "votes", x, state{lock: "a", locked: true})
}

// Nodes share nothing with one another.
func TestNodesApart(t *testing.T) {
	x, _ := begun(t, 4, 1, 2, "a")
	y, _ := begun(t, 4, 1, 2, "a")
	z := made(t, 4, 1, 2, "a")
	propose(x, 4, 0, "a")
	takes(x, vote, 0, "a", 1, 3)
	takes(x, commit, 0, "a", 1, 3)
	x.Timeout()
	is(t, "the one that ran", x, state{1, "a", 0, true, "a", true})
	is(t, "the other one", y, state{})
	is(t, "the one that did not begin", z, state{round: -1})
	sent(t, "the other one", propose(y, 4, 0, "b"), agree.Message{Kind: vote, From: 2, Value: "b"})
	sent(t, "the other one", takes(y, vote, 0, "b", 1, 3), agree.Message{Kind: commit, From: 2, Value: "b"})
}
