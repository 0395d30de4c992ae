package cast

import (
	"seneschal/api"
)

// choice is a value that is chosen once, and never again.
type choice struct {
	value string
	made  bool
}

// choose chooses value, and tells whether nothing was chosen before.
func (c *choice) choose(value string) bool {
	if c.made {
		return false
	}
	*c = choice{value: value, made: true}
	return true
}

// counts tells how many nodes sent messages of one kind, by the first one of each.
type counts struct {
	heard map[int]struct{} // whose first one has come
	many  map[string]int   // by the values
}

// noCounts answers the counts of no messages.
func noCounts() counts {
	return counts{heard: map[int]struct{}{}, many: map[string]int{}}
}

// add counts a message of the value, and tells whether it is the first one from there.
func (c counts) add(from int, value string) bool {
	if _, again := c.heard[from]; again {
		return false
	}
	c.heard[from] = struct{}{}
	c.many[value]++
	return true
}

// of answers how many nodes sent the value.
func (c counts) of(value string) int { return c.many[value] }

// isNode tells whether there is a node of that number among n.
func isNode(n, no int) bool { return no >= 1 && no <= n }

// isMade tells whether Make made the node; there are no broadcasts among none.
func (x *Node) isMade() bool { return x != nil && x.n > 0 }

// mayBe tells whether there can be such a message at all.
func (x *Node) mayBe(m Message) bool {
	switch m.Kind {
	case start:
		if m.From != x.dealer {
			return false
		}
		fallthrough
	case echo, ready:
		return isNode(x.n, m.From) && len(m.Value) <= api.MaxBytes
	}
	return false
}

// count counts m, and tells whether it is the first one of its kind from there.
func (x *Node) count(m Message) bool {
	switch m.Kind {
	case echo:
		return x.echoes.add(m.From, m.Value)
	case ready:
		return x.readies.add(m.From, m.Value)
	}
	return !x.echoed.made // the first start was answered by an echo at once
}

// callsForReady tells whether enough echoes, or enough readies, of the value have come.
func (x *Node) callsForReady(value string) bool {
	return 2*x.echoes.of(value) > x.n+x.t || x.readies.of(value) > x.t
}

// send answers the message of that kind and value; none, if one of its kind was sent before.
func (x *Node) send(kind int, value string, sent *choice) []Message {
	if !sent.choose(value) {
		return nil
	}
	return []Message{{Kind: kind, From: x.me, Value: value}}
}
