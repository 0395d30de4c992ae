package cast_test

import (
	"math/rand/v2"
	"reflect"
	"strings"
	"testing"

	"seneschal/api"
	"seneschal/cast"
)

const (
	start = 1
	echo  = 2
	ready = 3
)

// made answers a node, which must be one.
func made(t *testing.T, n, bound, me, dealer int) *cast.Node {
	t.Helper()
	x, e := cast.Make(n, bound, me, dealer)
	if x == nil || e != api.OK {
		t.Fatalf("Make(%d, %d, %d, %d): %v, error %d", n, bound, me, dealer, x, e)
	}
	return x
}

// one answers the only message of a list, or that there is none.
func one(t *testing.T, l []cast.Message) cast.Message {
	t.Helper()
	if len(l) > 1 {
		t.Fatalf("%d messages in one answer", len(l))
	}
	if len(l) == 0 {
		return cast.Message{}
	}
	return l[0]
}

// sizes calls f with each n and bound that may be.
func sizes(f func(n, bound int)) {
	for bound := 0; bound <= api.MaxTol; bound++ {
		for n := 3*bound + 1; n <= api.MaxNodes; n++ {
			f(n, bound)
		}
	}
}

// state is all that a node tells of itself.
type state struct {
	value, echoed, readied string
	has, did, was          bool
}

func look(x *cast.Node) state {
	var s state
	s.value, s.has = x.Value()
	s.echoed, s.did = x.Echoed()
	s.readied, s.was = x.Readied()
	return s
}

// The chapter's example: 4 nodes, one of which may be corrupt.
func TestExample(t *testing.T) {
	dealer, x := made(t, 4, 1, 1, 1), made(t, 4, 1, 2, 1)
	m, e := dealer.Start("v")
	if want := (cast.Message{Kind: start, From: 1, Value: "v"}); m != want || e != api.OK {
		t.Fatalf("the start: %v, error %d, want %v", m, e, want)
	}
	steps := []struct {
		m, want cast.Message
		after   state
	}{
		{m, cast.Message{Kind: echo, From: 2, Value: "v"}, state{echoed: "v", did: true}},
		{cast.Message{Kind: echo, From: 1, Value: "v"}, cast.Message{}, state{echoed: "v", did: true}},
		{cast.Message{Kind: echo, From: 2, Value: "v"}, cast.Message{}, state{echoed: "v", did: true}},
		{cast.Message{Kind: echo, From: 4, Value: "v"}, cast.Message{Kind: ready, From: 2, Value: "v"}, state{"", "v", "v", false, true, true}},
		{cast.Message{Kind: ready, From: 2, Value: "v"}, cast.Message{}, state{"", "v", "v", false, true, true}},
		{cast.Message{Kind: ready, From: 3, Value: "v"}, cast.Message{}, state{"", "v", "v", false, true, true}},
		{cast.Message{Kind: ready, From: 4, Value: "v"}, cast.Message{}, state{"v", "v", "v", true, true, true}},
	}
	for i, s := range steps {
		if got := one(t, x.Take(s.m)); got != s.want {
			t.Errorf("step %d: %v, want %v", i, got, s.want)
		}
		if got := look(x); got != s.after {
			t.Errorf("after step %d: %v, want %v", i, got, s.after)
		}
	}
}

// 15.1, 15.2: a node that was made has neither sent nor counted anything.
func TestFresh(t *testing.T) {
	sizes(func(n, bound int) {
		for me := 1; me <= n; me++ {
			for dealer := 1; dealer <= n; dealer++ {
				if got := look(made(t, n, bound, me, dealer)); got != (state{}) {
					t.Errorf("node %d of %d: %v", me, n, got)
				}
			}
		}
	})
}

// 15.1: the dealer's start; it counts only when it comes back to the dealer.
func TestStart(t *testing.T) {
	sizes(func(n, bound int) {
		for me := 1; me <= n; me++ {
			x := made(t, n, bound, me, me)
			m, e := x.Start("v")
			if want := (cast.Message{Kind: start, From: me, Value: "v"}); m != want || e != api.OK {
				t.Errorf("the start of %d: %v, error %d", me, m, e)
			}
			if got := look(x); got != (state{}) {
				t.Errorf("the start of %d counts at once: %v", me, got)
			}
			if got, want := one(t, x.Take(m)), (cast.Message{Kind: echo, From: me, Value: "v"}); got != want {
				t.Errorf("its own start: %v, want %v", got, want)
			}
		}
	})
}

// 15.1: the first start, and no other, is answered by an echo of its value; also at the dealer, begun or not.
func TestEcho(t *testing.T) {
	for me := 1; me <= 4; me++ {
		x := made(t, 4, 1, me, 3)
		if got, want := one(t, x.Take(cast.Message{Kind: start, From: 3, Value: "a"})), (cast.Message{Kind: echo, From: me, Value: "a"}); got != want {
			t.Errorf("node %d: %v, want %v", me, got, want)
		}
		for _, v := range []string{"a", "b", ""} {
			if got := x.Take(cast.Message{Kind: start, From: 3, Value: v}); len(got) != 0 {
				t.Errorf("node %d, another start: %v", me, got)
			}
		}
		if v, ok := x.Echoed(); v != "a" || !ok {
			t.Errorf("node %d echoed %q, %v", me, v, ok)
		}
	}
}

// enough answers how many echoes call for a ready, counted out.
func enough(n, bound int) int {
	for k := 0; ; k++ {
		if float64(k) > float64(n+bound)/2 {
			return k
		}
	}
}

// 15.1: a ready is sent as soon as echoes come from more than half of n and t nodes, and not ahead.
func TestEchoesCallForReady(t *testing.T) {
	sizes(func(n, bound int) {
		x := made(t, n, bound, n, 1)
		for from := n; from >= 1; from-- {
			got, many := one(t, x.Take(cast.Message{Kind: echo, From: from, Value: "v"})), n-from+1
			want := cast.Message{}
			if many == enough(n, bound) {
				want = cast.Message{Kind: ready, From: n, Value: "v"}
			}
			if got != want {
				t.Errorf("%d of %d nodes (%d corrupt): %v, want %v", many, n, bound, got, want)
			}
			if v, ok := x.Readied(); ok != (many >= enough(n, bound)) || ok != (v == "v") {
				t.Errorf("%d of %d nodes (%d corrupt): ready %q, %v", many, n, bound, v, ok)
			}
		}
		if got := look(x); got != (state{readied: "v", was: true}) {
			t.Errorf("echoes alone: %v", got)
		}
	})
}

// 15.1, 15.2: a ready is sent as soon as they come from t and 1 nodes; from 2 t and 1 the value is delivered.
func TestReadies(t *testing.T) {
	sizes(func(n, bound int) {
		x := made(t, n, bound, 1, n)
		for from := 1; from <= n; from++ {
			got := one(t, x.Take(cast.Message{Kind: ready, From: from, Value: "v"}))
			want := cast.Message{}
			if from == bound+1 {
				want = cast.Message{Kind: ready, From: 1, Value: "v"}
			}
			if got != want {
				t.Errorf("%d of %d nodes (%d corrupt): %v, want %v", from, n, bound, got, want)
			}
			is := state{was: from >= bound+1, has: from >= 2*bound+1}
			if is.was {
				is.readied = "v"
			}
			if is.has {
				is.value = "v"
			}
			if s := look(x); s != is {
				t.Errorf("%d of %d nodes (%d corrupt): %v, want %v", from, n, bound, s, is)
			}
		}
	})
}

// 15.1: of each sender the first echo and the first ready count alone, whatever they are of.
func TestFirstOfEachSender(t *testing.T) {
	for _, kind := range []int{echo, ready} {
		x := made(t, 7, 2, 1, 1)
		for range 3 { // too few, however often
			for from := 1; from <= 2; from++ {
				if got := x.Take(cast.Message{Kind: kind, From: from, Value: "a"}); len(got) != 0 {
					t.Fatalf("kind %d: %v", kind, got)
				}
			}
		}
		for from := 1; from <= 2; from++ { // they have told a
			x.Take(cast.Message{Kind: kind, From: from, Value: "b"})
		}
		sent := 0
		for from := 3; from <= 7; from++ {
			if len(x.Take(cast.Message{Kind: kind, From: from, Value: "b"})) > 0 {
				sent = from
			}
		}
		if want := map[int]int{echo: 7, ready: 5}[kind]; sent != want {
			t.Errorf("kind %d: ready at node %d's, want %d's", kind, sent, want)
		}
	}
}

// 15.1: an echo and a ready of one sender both count, and of different values.
func TestKindsApart(t *testing.T) {
	x := made(t, 4, 1, 1, 1)
	for from := 1; from <= 2; from++ {
		if got := x.Take(cast.Message{Kind: echo, From: from, Value: "a"}); len(got) != 0 {
			t.Errorf("too few echoes: %v", got)
		}
	}
	if got := x.Take(cast.Message{Kind: ready, From: 3, Value: "a"}); len(got) != 0 {
		t.Errorf("two echoes and a ready are no three: %v", got)
	}
	if got := one(t, x.Take(cast.Message{Kind: ready, From: 1, Value: "a"})); got.Kind != ready || got.Value != "a" {
		t.Errorf("a second ready: %v", got)
	}
	y := made(t, 4, 1, 1, 1)
	for from := 1; from <= 2; from++ {
		y.Take(cast.Message{Kind: echo, From: from, Value: "a"})
		if got := y.Take(cast.Message{Kind: echo, From: from + 2, Value: "b"}); len(got) != 0 {
			t.Errorf("two of each: %v", got)
		}
	}
}

// 15.1, 15.2: echoes of one value and readies of another: one ready is sent, and what the readies say is delivered.
func TestReadyOfOneDeliveredOther(t *testing.T) {
	x := made(t, 4, 1, 4, 1)
	x.Take(cast.Message{Kind: start, From: 1, Value: "c"})
	for from := 1; from <= 3; from++ {
		x.Take(cast.Message{Kind: echo, From: from, Value: "a"})
	}
	for from := 1; from <= 4; from++ {
		if got := x.Take(cast.Message{Kind: ready, From: from, Value: "b"}); len(got) != 0 {
			t.Errorf("another ready: %v", got)
		}
	}
	if got := look(x); got != (state{"b", "c", "a", true, true, true}) {
		t.Errorf("told %v", got)
	}
}

// 15.2: what was delivered first stays (it takes more corrupt nodes than may be to ask for another).
func TestDeliveredOnce(t *testing.T) {
	x := made(t, 7, 1, 4, 1)
	for from := 1; from <= 6; from++ {
		x.Take(cast.Message{Kind: ready, From: from, Value: string(rune('a' + (from-1)/3))})
	}
	if v, ok := x.Value(); v != "a" || !ok {
		t.Errorf("delivered %q, %v", v, ok)
	}
	if v, ok := x.Readied(); v != "a" || !ok {
		t.Errorf("ready of %q, %v", v, ok)
	}
}

// A value is any bytes, also none, up to MaxBytes.
func TestValues(t *testing.T) {
	for _, v := range []string{"", "\x00", "\xff\xfe", strings.Repeat("x", api.MaxBytes)} {
		nodes := []*cast.Node{made(t, 4, 1, 1, 1), made(t, 4, 1, 2, 1), made(t, 4, 1, 3, 1), made(t, 4, 1, 4, 1)}
		m, e := nodes[0].Start(v)
		if e != api.OK {
			t.Fatalf("a value of %d bytes: error %d", len(v), e)
		}
		run(nodes, []cast.Message{m})
		for i, x := range nodes {
			if got := look(x); got != (state{v, v, v, true, true, true}) {
				t.Errorf("a value of %d bytes, node %d: told others", len(v), i+1)
			}
		}
	}
}

// run hands every message to every node, in the order in which they are sent, and answers them all.
func run(nodes []*cast.Node, sent []cast.Message) []cast.Message {
	for i := 0; i < len(sent); i++ {
		for _, x := range nodes {
			sent = append(sent, x.Take(sent[i])...)
		}
	}
	return sent
}

// 15.5, 15.6: with honest nodes alone, each delivers what the dealer tells, by one echo and one ready each.
func TestAllHonest(t *testing.T) {
	sizes(func(n, bound int) {
		for dealer := 1; dealer <= n; dealer += 5 {
			var nodes []*cast.Node
			for me := 1; me <= n; me++ {
				nodes = append(nodes, made(t, n, bound, me, dealer))
			}
			m, _ := nodes[dealer-1].Start("v")
			all := run(nodes, []cast.Message{m})
			if len(all) != 1+2*n {
				t.Errorf("%d nodes: %d messages, want %d", n, len(all), 1+2*n)
			}
			for _, x := range nodes {
				if v, ok := x.Value(); v != "v" || !ok {
					t.Errorf("%d nodes (%d corrupt): delivered %q, %v", n, bound, v, ok)
				}
			}
		}
	})
}

// history is a node as the chapter's words tell it: it keeps what it counted, and looks through all of it each time.
type history struct {
	n, t, me, dealer       int
	counted                []cast.Message
	echoed, readied, value *string
}

func (h *history) first(m cast.Message) bool {
	for _, o := range h.counted {
		if o.Kind == m.Kind && o.From == m.From {
			return false
		}
	}
	return true
}

func (h *history) many(kind int, v string) int {
	k := 0
	for _, o := range h.counted {
		if o.Kind == kind && o.Value == v {
			k++
		}
	}
	return k
}

func (h *history) take(m cast.Message) []cast.Message {
	bad := m.Kind < start || m.Kind > ready || m.From < 1 || m.From > h.n || len(m.Value) > api.MaxBytes || m.Kind == start && m.From != h.dealer
	if bad || !h.first(m) {
		return nil
	}
	h.counted = append(h.counted, m)
	var out []cast.Message
	if m.Kind == start && h.echoed == nil {
		h.echoed = &m.Value
		out = append(out, cast.Message{Kind: echo, From: h.me, Value: m.Value})
	}
	for _, o := range h.counted {
		echoes, readies := h.many(echo, o.Value), h.many(ready, o.Value)
		if (echoes*2 > h.n+h.t || readies >= h.t+1) && h.readied == nil {
			h.readied = &o.Value
			out = append(out, cast.Message{Kind: ready, From: h.me, Value: o.Value})
		}
		if readies >= 2*h.t+1 && h.value == nil {
			h.value = &o.Value
		}
	}
	return out
}

func (h *history) look() state {
	var s state
	for _, p := range []struct {
		from *string
		to   *string
		is   *bool
	}{{h.value, &s.value, &s.has}, {h.echoed, &s.echoed, &s.did}, {h.readied, &s.readied, &s.was}} {
		if p.from != nil {
			*p.to, *p.is = *p.from, true
		}
	}
	return s
}

// 15.1, 15.2: whatever comes in whatever order, the node does as the chapter's words say.
func TestAgainstHistory(t *testing.T) {
	r := rand.New(rand.NewPCG(15, 1))
	long := strings.Repeat("x", api.MaxBytes+1)
	sizes(func(n, bound int) {
		for round := range 30 {
			me, dealer := 1+r.IntN(n), 1+r.IntN(n)
			x, h := made(t, n, bound, me, dealer), &history{n: n, t: bound, me: me, dealer: dealer}
			values := []string{"", "a", "b", long}[:1+r.IntN(4)]
			for step := range 4 * n {
				m := cast.Message{Kind: r.IntN(5), From: r.IntN(n + 2), Value: values[r.IntN(len(values))]}
				if round%2 == 0 && r.IntN(3) > 0 {
					m.Kind = echo + r.IntN(2)
				}
				if got, want := x.Take(m), h.take(m); len(got)+len(want) > 0 && !reflect.DeepEqual(got, want) {
					t.Fatalf("%d nodes (%d corrupt), step %d, %v: %v, want %v", n, bound, step, m, got, want)
				}
				if got, want := look(x), h.look(); got != want {
					t.Fatalf("%d nodes (%d corrupt), step %d, %v: told %v, want %v", n, bound, step, m, got, want)
				}
			}
		}
	})
}

// 15.1, 15.2: all sequences of five of a few messages, at one node of a small broadcast.
func TestAllShortHistories(t *testing.T) {
	var all []cast.Message
	for from := 1; from <= 2; from++ {
		for kind := start; kind <= ready; kind++ {
			all = append(all, cast.Message{Kind: kind, From: from, Value: "a"})
		}
	}
	all = append(all, cast.Message{Kind: echo, From: 3, Value: "a"}, cast.Message{Kind: ready, From: 3, Value: "a"}, cast.Message{Kind: ready, From: 3, Value: "b"})
	var walk func(past []cast.Message)
	walk = func(past []cast.Message) {
		x, h := made(t, 4, 1, 2, 1), &history{n: 4, t: 1, me: 2, dealer: 1}
		for _, m := range past {
			if got, want := x.Take(m), h.take(m); len(got)+len(want) > 0 && !reflect.DeepEqual(got, want) {
				t.Fatalf("after %v: %v, want %v", past, got, want)
			}
		}
		if got, want := look(x), h.look(); got != want {
			t.Fatalf("after %v: told %v, want %v", past, got, want)
		}
		if len(past) < 5 {
			for _, m := range all {
				walk(append(past[:len(past):len(past)], m))
			}
		}
	}
	walk(nil)
}

// world is a broadcast some of whose nodes send whatever they like; messages go to each node alone, in any order.
type world struct {
	r       *rand.Rand
	nodes   []*cast.Node // nil: corrupt
	waiting []letter
	sent    map[cast.Message]int
}

type letter struct {
	to int
	m  cast.Message
}

func (w *world) toAll(m cast.Message) {
	w.sent[m]++
	for to := range w.nodes {
		w.waiting = append(w.waiting, letter{to, m})
	}
}

// lie lets the corrupt nodes send each node messages of each kind, of one value or another, or none.
func (w *world) lie(values []string, dealer int) {
	for from, x := range w.nodes {
		if x != nil {
			continue
		}
		for to := range w.nodes {
			for kind := start; kind <= ready; kind++ {
				if kind == start && from+1 != dealer {
					continue
				}
				for range w.r.IntN(3) {
					w.waiting = append(w.waiting, letter{to, cast.Message{Kind: kind, From: from + 1, Value: values[w.r.IntN(len(values))]}})
				}
			}
		}
	}
}

// play hands on what waits, in any order; by a false keep, some of what honest nodes sent may get lost.
func (w *world) play(keep bool) {
	for len(w.waiting) > 0 {
		i := w.r.IntN(len(w.waiting))
		l := w.waiting[i]
		w.waiting[i] = w.waiting[len(w.waiting)-1]
		w.waiting = w.waiting[:len(w.waiting)-1]
		if x := w.nodes[l.to]; x != nil && (keep || w.r.IntN(8) > 0) {
			for _, m := range x.Take(l.m) {
				w.toAll(m)
			}
		}
	}
}

// newWorld answers a broadcast with as many corrupt nodes as may be; liar: the dealer is one of them.
func newWorld(t *testing.T, r *rand.Rand, n, bound, dealer int, liar bool) *world {
	w := &world{r: r, sent: map[cast.Message]int{}}
	for me := 1; me <= n; me++ {
		w.nodes = append(w.nodes, made(t, n, bound, me, dealer))
	}
	corrupt := bound
	if liar && bound > 0 {
		w.nodes[dealer-1] = nil
		corrupt--
	}
	for _, i := range r.Perm(n) {
		if corrupt > 0 && w.nodes[i] != nil && i+1 != dealer {
			w.nodes[i] = nil
			corrupt--
		}
	}
	return w
}

// delivered answers what honest nodes delivered, and how many of them did and didn't.
func (w *world) delivered() (values map[string]int, not int) {
	values = map[string]int{}
	for _, x := range w.nodes {
		if x == nil {
			continue
		}
		if v, ok := x.Value(); ok {
			values[v]++
		} else {
			not++
		}
	}
	return values, not
}

// once tells whether each honest node sent one echo and one ready at most.
func (w *world) once(t *testing.T) {
	t.Helper()
	many := map[[2]int]int{}
	for m, k := range w.sent {
		many[[2]int{m.Kind, m.From}] += k
	}
	for who, k := range many {
		if k > 1 {
			t.Errorf("node %d sent %d messages of kind %d", who[1], k, who[0])
		}
	}
}

// 15.3, 15.4, 15.6: a dealer that is corrupt, and others: nobody delivers other values; all deliver, or none.
func TestCorruptDealer(t *testing.T) {
	r := rand.New(rand.NewPCG(15, 2))
	all, none := 0, 0
	sizes(func(n, bound int) {
		for round := range 40 {
			keep := round%4 > 0
			dealer := 1 + r.IntN(n)
			w := newWorld(t, r, n, bound, dealer, true)
			w.lie([]string{"a", "b"}[:1+r.IntN(2)], dealer)
			w.play(keep)
			values, not := w.delivered()
			if len(values) > 1 {
				t.Fatalf("%d nodes (%d corrupt): delivered %v", n, bound, values)
			}
			if keep && len(values) > 0 && not > 0 {
				t.Fatalf("%d nodes (%d corrupt): %v, but %d of them not", n, bound, values, not)
			}
			w.once(t)
			all, none = all+len(values), none+1-len(values)
		}
	})
	if all == 0 || none == 0 {
		t.Errorf("delivered %d times, not delivered %d times: the test tells nothing", all, none)
	}
}

// 15.3: a dealer that tells half of them one value, and half another, with a helper that echoes each to each.
func TestTwoFacedDealer(t *testing.T) {
	for _, split := range []int{1, 2, 3, 4} {
		w := newWorld(t, rand.New(rand.NewPCG(15, uint64(split))), 7, 2, 1, true)
		for i := range w.nodes {
			w.nodes[i] = made(t, 7, 2, i+1, 1)
		}
		w.nodes[0], w.nodes[1] = nil, nil
		for to := 2; to < 7; to++ {
			v := "a"
			if to-2 >= split {
				v = "b"
			}
			w.waiting = append(w.waiting, letter{to, cast.Message{Kind: start, From: 1, Value: v}})
			for from := 1; from <= 2; from++ {
				w.waiting = append(w.waiting, letter{to, cast.Message{Kind: echo, From: from, Value: v}}, letter{to, cast.Message{Kind: ready, From: from, Value: v}})
			}
		}
		w.play(true)
		values, not := w.delivered()
		if len(values) > 1 || len(values) == 1 && not > 0 {
			t.Errorf("%d told a: delivered %v, %d of them not", split, values, not)
		}
	}
}

// 15.5, 15.6: an honest dealer, with as many corrupt others as may be: all others deliver its value.
func TestHonestDealer(t *testing.T) {
	r := rand.New(rand.NewPCG(15, 3))
	sizes(func(n, bound int) {
		for range 20 {
			dealer := 1 + r.IntN(n)
			w := newWorld(t, r, n, bound, dealer, false)
			m, e := w.nodes[dealer-1].Start("v")
			if e != api.OK {
				t.Fatalf("the start: error %d", e)
			}
			w.toAll(m)
			w.lie([]string{"v", "w"}, dealer)
			w.play(true)
			if values, not := w.delivered(); values["v"] != n-bound || not > 0 {
				t.Fatalf("%d nodes (%d corrupt): %v, %d not", n, bound, values, not)
			}
			w.once(t)
		}
	})
}

// Rule 4: what was answered is the caller's own.
func TestAnswersOwn(t *testing.T) {
	x := made(t, 4, 1, 1, 1)
	l := x.Take(cast.Message{Kind: start, From: 1, Value: "a"})
	l[0].Value, l[0].Kind = "b", 9
	_ = append(l, cast.Message{Kind: 7})
	if v, ok := x.Echoed(); v != "a" || !ok {
		t.Errorf("echoed %q, %v", v, ok)
	}
}

// Nodes share nothing with one another.
func TestNodesApart(t *testing.T) {
	x, y := made(t, 1, 0, 1, 1), made(t, 1, 0, 1, 1)
	m, _ := x.Start("a")
	run([]*cast.Node{x}, []cast.Message{m})
	if got := look(y); got != (state{}) {
		t.Errorf("the other node: %v", got)
	}
	if m, e := y.Start("b"); m.Value != "b" || e != api.OK {
		t.Errorf("the other start: %v, error %d", m, e)
	}
	if got := look(x); got != (state{"a", "a", "a", true, true, true}) {
		t.Errorf("the one that ran: %v", got)
	}
}
