package agree_test

import (
	"math/rand/v2"
	"slices"
	"testing"

	"seneschal/agree"
	"seneschal/api"
)

// world is an agreement some of whose nodes send whatever they like; messages go to each node alone, in any order.
type world struct {
	r       *rand.Rand
	n       int
	nodes   []*agree.Node // nil: corrupt
	waiting []letter
	sent    []agree.Message // by those that are not corrupt
}

type letter struct {
	to int
	m  agree.Message
}

func newWorld(r *rand.Rand, n, corrupt int) *world {
	w := &world{r: r, n: n, nodes: make([]*agree.Node, n)}
	for _, i := range r.Perm(n)[corrupt:] {
		w.nodes[i] = &agree.Node{}
	}
	return w
}

// begin lets all begin, with one of the inputs each.
func (w *world) begin(t *testing.T, bound int, inputs []string) {
	for i, x := range w.nodes {
		if x != nil {
			x, l := begun(t, w.n, bound, i+1, inputs[w.r.IntN(len(inputs))])
			w.nodes[i] = x
			w.toAll(l)
		}
	}
}

func (w *world) toAll(l []agree.Message) {
	for _, m := range l {
		w.sent = append(w.sent, m)
		for to, x := range w.nodes {
			if x != nil {
				w.waiting = append(w.waiting, letter{to, m})
			}
		}
	}
}

// lie lets the corrupt nodes send each node messages of the rounds from first to last, of one value or another, or none.
func (w *world) lie(values []string, first, last int) {
	for from, liar := range w.nodes {
		for to, x := range w.nodes {
			if liar != nil || x == nil {
				continue
			}
			for round := first; round <= last; round++ {
				for kind := proposal; kind <= commit; kind++ {
					for range w.r.IntN(3) {
						w.waiting = append(w.waiting, letter{to, agree.Message{Kind: kind, From: from + 1, Round: round, Value: values[w.r.IntN(len(values))]}})
					}
				}
			}
		}
	}
}

// next answers one of the letters that wait, which waits no more.
func (w *world) next() letter {
	i := w.r.IntN(len(w.waiting))
	l := w.waiting[i]
	w.waiting[i] = w.waiting[len(w.waiting)-1]
	w.waiting = w.waiting[:len(w.waiting)-1]
	return l
}

// play hands on what waits, in any order; one of so many steps lets somebody's time be over, up to the round last; one of so many messages is lost.
func (w *world) play(times, losses, last int) {
	for len(w.waiting) > 0 {
		if times > 0 && w.r.IntN(times) == 0 {
			if x := w.nodes[w.r.IntN(w.n)]; x != nil && x.Round() < last {
				w.toAll(x.Timeout())
			}
		}
		l := w.next()
		if losses == 0 || w.r.IntN(losses) > 0 {
			w.toAll(w.nodes[l.to].Take(l.m))
		}
	}
}

// decided answers what was decided, and how many did not.
func (w *world) decided() (values map[string]int, not int) {
	values = map[string]int{}
	for _, x := range w.nodes {
		if x == nil {
			continue
		}
		if v, ok := x.Decided(); ok {
			values[v]++
		} else {
			not++
		}
	}
	return values, not
}

// once tells whether each node proposed, voted and committed once in a round at most, and in its rounds alone.
func (w *world) once(t *testing.T) {
	t.Helper()
	many := map[[3]int]int{}
	for _, m := range w.sent {
		many[[3]int{m.Kind, m.From, m.Round}]++
		if m.Kind == proposal && m.From != leader(w.n, m.Round) {
			t.Errorf("node %d proposed in round %d", m.From, m.Round)
		}
	}
	for who, k := range many {
		if k > 1 {
			t.Errorf("node %d sent %d messages of kind %d in round %d", who[1], k, who[0], who[2])
		}
	}
}

// 16.3, 16.6: with as many corrupt nodes as may be, lost messages and times that are over anywhere, no two decide other values.
func TestTheSame(t *testing.T) {
	r := rand.New(rand.NewPCG(16, 3))
	some, none, late, empty := 0, 0, 0, 0
	sizes(func(n, bound int) {
		if n > 7 {
			return
		}
		for play := range 240 {
			w := newWorld(r, n, bound)
			values := []string{"a", "b", ""}
			w.begin(t, bound, values[:2])
			w.lie(values, 0, 4)
			w.play([]int{0, 3 * n, n * n, 4 * n * n}[play%4]+n, []int{0, 6, 20}[play%3], 4)
			got, _ := w.decided()
			if len(got) > 1 {
				t.Fatalf("%d nodes (%d corrupt): decided %v", n, bound, got)
			}
			some, none = some+len(got), none+1-len(got)
			for _, m := range w.sent {
				if m.Kind == vote && m.Value == "" {
					empty++
				}
				if m.Kind == commit && m.Round > 0 {
					late++
				}
			}
			w.once(t)
		}
	})
	if some < 100 || none < 100 || late < 100 || empty < 100 {
		t.Errorf("decided %d times, not %d times, %d late commits, %d empty votes: the test tells little", some, none, late, empty)
	}
}

// 16.3: a leader that proposes one value to some, and another to others, with helpers that vote and commit each to each.
func TestTwoFacedLeader(t *testing.T) {
	for split := range 6 {
		for seed := range uint64(20) {
			w := newWorld(rand.New(rand.NewPCG(seed, uint64(split))), 7, 0)
			w.nodes[0], w.nodes[1] = nil, nil
			w.begin(t, 2, []string{"c"})
			for to := 2; to < 7; to++ {
				v := "a"
				if to-2 >= split {
					v = "b"
				}
				w.waiting = append(w.waiting, letter{to, agree.Message{Kind: proposal, From: 1, Value: v}})
				for from := 1; from <= 2; from++ {
					w.waiting = append(w.waiting, letter{to, agree.Message{Kind: vote, From: from, Value: v}}, letter{to, agree.Message{Kind: commit, From: from, Value: v}})
				}
			}
			w.play(0, 0, 0)
			for round := 1; round <= 6; round++ {
				for _, x := range w.nodes[2:] {
					w.toAll(x.Timeout())
				}
				w.play(0, 0, round)
			}
			want := "b"
			if split >= 3 {
				want = "a"
			}
			if got, not := w.decided(); got[want] != 5 || not > 0 {
				t.Errorf("%d were told a: decided %v, %d not", split, got, not)
			}
		}
	}
}

// 16.4: where all inputs are the same, and nobody is corrupt, nothing else is decided, and nothing else is sent, but by empty votes.
func TestTold(t *testing.T) {
	r := rand.New(rand.NewPCG(16, 4))
	sizes(func(n, bound int) {
		for play := range 4 {
			w := newWorld(r, n, 0)
			w.begin(t, bound, []string{"v"})
			w.play([]int{0, n * n}[play/2], []int{0, 5}[play%2], 3)
			got, not := w.decided()
			if play == 0 && (got["v"] != n || not > 0) || len(got) > 1 || len(got) == 1 && got["v"] == 0 {
				t.Fatalf("%d nodes: decided %v, %d not", n, got, not)
			}
			for _, m := range w.sent {
				if m.Value != "v" {
					t.Fatalf("%d nodes: sent %v", n, m)
				}
			}
			w.once(t)
		}
	})
}

// fits tells whether the round's leader is not corrupt, and all others are without locks of other values than it will propose.
func (w *world) fits(round int, inputs map[int]string) bool {
	head := w.nodes[leader(w.n, round)-1]
	if head == nil {
		return false
	}
	value, _, locked := head.Lock()
	if !locked {
		value = inputs[leader(w.n, round)]
	}
	for _, x := range w.nodes {
		if x == nil {
			continue
		}
		if v, _, ok := x.Lock(); ok && v != value {
			return false
		}
	}
	return true
}

// 16.5: in a round whose leader does as it should, into which all others come without locks of other values, all decide, if its messages arrive in time; ahead of a node's coming into it, too.
func TestInTheEnd(t *testing.T) {
	r := rand.New(rand.NewPCG(16, 5))
	many := 0
	sizes(func(n, bound int) {
		if n > 10 && n != 16 {
			return
		}
		for range 30 {
			w := newWorld(r, n, bound)
			inputs := map[int]string{}
			for i, x := range w.nodes {
				if x != nil {
					inputs[i+1] = []string{"a", "b"}[r.IntN(2)]
					w.nodes[i], _ = begun(t, n, bound, i+1, inputs[i+1])
				}
			}
			good := 1 + r.IntN(5)
			w.lie([]string{"a", "b", ""}, 0, good-1)
			w.play(2*n, 3, good-1) // all that comes ahead of the good round may be lost
			for _, x := range w.nodes {
				for x != nil && x.Round() < good-1 {
					x.Timeout()
				}
			}
			if !w.fits(good, inputs) {
				continue
			}
			many++
			w.enter(good)
			if got, not := w.decided(); len(got) != 1 || not > 0 {
				t.Fatalf("%d nodes (%d corrupt), round %d: decided %v, %d not", n, bound, good, got, not)
			}
		}
	})
	if many < 200 {
		t.Errorf("%d rounds alone: the test tells little", many)
	}
}

// enter lets all come into a round one by one, while its messages, and those of corrupt nodes, go about.
func (w *world) enter(round int) {
	w.waiting = nil
	w.lie([]string{"a", "b", ""}, round, round)
	order := w.r.Perm(w.n)
	order = slices.DeleteFunc(order, func(i int) bool { return w.nodes[i] == nil })
	for len(order)+len(w.waiting) > 0 {
		if len(order) > 0 && (len(w.waiting) == 0 || w.r.IntN(8*w.n) == 0) {
			w.toAll(w.nodes[order[0]].Timeout())
			order = order[1:]
			continue
		}
		l := w.next()
		w.toAll(w.nodes[l.to].Take(l.m))
	}
}

// 16.5: a node that comes into the round last, behind all votes of the others, is needed, and commits.
func TestLateNode(t *testing.T) {
	sizes(func(n, bound int) {
		if bound == 0 {
			return
		}
		x, _ := begun(t, n, bound, n, "w")
		propose(x, n, 1, "v")
		takes(x, vote, 1, "v", 1, n-bound)
		sent(t, "the late one", x.Timeout(), agree.Message{Kind: commit, From: n, Round: 1, Value: "v"}, agree.Message{Kind: vote, From: n, Round: 1, Value: "v"})
	})
}

// 16.3, 16.6: through all rounds, to the last one.
func TestAllRounds(t *testing.T) {
	r := rand.New(rand.NewPCG(16, 6))
	for range 5 {
		w := newWorld(r, 4, 1)
		w.begin(t, 1, []string{"a", "b"})
		w.lie([]string{"a", "b", ""}, 0, api.MaxRounds-1)
		w.play(20, 2, api.MaxRounds-1)
		if got, _ := w.decided(); len(got) > 1 {
			t.Errorf("decided %v", got)
		}
		w.once(t)
	}
}
