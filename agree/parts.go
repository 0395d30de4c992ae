package agree

import (
	"seneschal/api"
)

// round is the round that a node is in, and what it did in it.
type round struct {
	no                         int
	proposed, voted, committed bool
}

// lock is what a node holds on to: a value that had its votes in a round. No such value is empty.
type lock struct {
	value string
	round int
}

// isMade tells whether there is a lock.
func (l lock) isMade() bool { return l.value != "" }

// sender is who sent a message of a kind in a round.
type sender struct{ kind, round, from int }

// said is what was told by a message of a kind in a round.
type said struct {
	kind, round int
	value       string
}

// isNode tells whether there is a node of that number among n.
func isNode(n, no int) bool { return no >= 1 && no <= n }

// isMade tells whether Make made the node; there are no agreements among none.
func (x *Node) isMade() bool { return x != nil && x.n > 0 }

// hasBegun tells whether the node is in a round.
func (x *Node) hasBegun() bool { return x.isMade() && x.began }

// leader answers who leads that round.
func (x *Node) leader(no int) int { return no%x.n + 1 }

// mayBe tells whether there can be such a message at all.
func (x *Node) mayBe(m Message) bool {
	switch m.Kind {
	case proposal:
		if m.From != x.leader(m.Round) {
			return false
		}
		fallthrough
	case commit:
		if m.Value == "" {
			return false
		}
		fallthrough
	case vote:
		return isNode(x.n, m.From) && m.Round >= 0 && m.Round < api.MaxRounds && len(m.Value) <= api.MaxBytes
	}
	return false
}

// count counts m, and tells whether it is the first one of its kind and round from there.
func (x *Node) count(m Message) bool {
	from := sender{m.Kind, m.Round, m.From}
	if _, again := x.heard[from]; again {
		return false
	}
	x.heard[from] = struct{}{}
	x.many[said{m.Kind, m.Round, m.Value}]++
	return true
}

// isEnough tells whether n - t messages said what m says.
func (x *Node) isEnough(m Message) bool {
	return x.many[said{m.Kind, m.Round, m.Value}] >= x.n-x.t
}

// back notes a value that has its votes in a round, and locks it, if that is no step back.
func (x *Node) back(m Message) {
	if m.Value == "" || !x.isEnough(m) {
		return
	}
	x.backed[m.Round] = m.Value
	if !x.lock.isMade() || x.lock.round < m.Round {
		x.lock = lock{value: m.Value, round: m.Round}
	}
}

// decide decides what has its commits in a round, if nothing was decided before.
func (x *Node) decide(m Message) {
	if x.decided == "" && x.isEnough(m) {
		x.decided = m.Value
	}
}

// say answers what the node has to send in its round, and did not yet: votes may have come ahead of the round, too.
func (x *Node) say() []Message {
	var out []Message
	if value := x.backed[x.present.no]; value != "" && !x.present.committed {
		x.present.committed = true
		out = append(out, x.message(commit, value))
	}
	if x.me == x.leader(x.present.no) && !x.present.proposed {
		x.present.proposed = true
		out = append(out, x.message(proposal, x.held()))
	}
	if value := x.proposals[x.present.no]; value != "" && !x.present.voted {
		x.present.voted = true
		out = append(out, x.message(vote, x.choice(value)))
	}
	return out
}

// message answers what the node sends in its round.
func (x *Node) message(kind int, value string) Message {
	return Message{Kind: kind, From: x.me, Round: x.present.no, Value: value}
}

// held answers what the node would have decided.
func (x *Node) held() string {
	if x.lock.isMade() {
		return x.lock.value
	}
	return x.input
}

// choice answers what the node votes when that value is proposed: nothing, if its lock is of another one.
func (x *Node) choice(value string) string {
	if x.lock.isMade() && x.lock.value != value {
		return ""
	}
	return value
}
