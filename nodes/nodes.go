package nodes

import (
	"iter"
	"slices"

	"sieve/api"
)

// Fact is a fact that is there, with its number.
type Fact struct {
	api.Fact
	ID int
}

// token is what matched so far: a fact for each condition that is not negated.
// How many there are, the node knows at which it is.
type token [api.MaxConds]*Fact

// node is a step on the way from the first condition of a rule to its matches.
type node interface {
	// arrive: what matched ahead of the node has come to be.
	arrive(t token)
	// forget: what matched ahead of the node and is gone, is so no longer.
	forget(gone func(t token) bool)
}

// memory is what all nodes have: they remember what has arrived.
type memory struct {
	tokens []token
}

func (m *memory) keep(t token) { m.tokens = append(m.tokens, t) }

func (m *memory) forget(gone func(t token) bool) {
	m.tokens = slices.DeleteFunc(m.tokens, gone)
}

// step is what the nodes of conditions have. It remembers the facts that fit its
// condition alone too, so that what arrives is held against no other.
type step struct {
	cond
	memory
	facts []*Fact
	next  node
}

// admit remembers a new fact, if it fits.
func (s *step) admit(f *Fact) bool {
	if !s.fitsAlone(f) {
		return false
	}
	s.facts = append(s.facts, f)
	return true
}

// dismiss forgets a fact that is gone, if it fitted.
func (s *step) dismiss(f *Fact) bool {
	at := slices.Index(s.facts, f)
	if at < 0 {
		return false
	}
	s.facts = slices.Delete(s.facts, at, at+1)
	return true
}

// forget: what is gone here is gone behind this node too.
func (s *step) forget(gone func(t token) bool) {
	s.memory.forget(gone)
	s.next.forget(gone)
}

// join is the node of a condition that is not negated: it joins a fact to what arrives.
type join struct {
	step
	place int // of that fact in a token
}

func (j *join) arrive(t token) {
	j.keep(t)
	for _, f := range j.facts {
		j.pair(t, f)
	}
}

// extend joins a new fact to what has arrived until now.
func (j *join) extend(f *Fact) {
	if !j.admit(f) {
		return
	}
	for _, t := range j.tokens {
		j.pair(t, f)
	}
}

func (j *join) pair(t token, f *Fact) {
	if j.fitsWith(t, f) {
		t[j.place] = f
		j.next.arrive(t)
	}
}

// holdBack is the node of a negated condition: it lets pass what no fact stands against.
type holdBack struct {
	step
}

func (h *holdBack) arrive(t token) {
	h.keep(t)
	if !h.blocked(t) {
		h.next.arrive(t)
	}
}

func (h *holdBack) blocked(t token) bool {
	return slices.ContainsFunc(h.facts, func(f *Fact) bool { return h.fitsWith(t, f) })
}

// block takes back what had passed and meets a new fact. What lies behind begins
// with the same facts, so it can be asked there, and no list of it is needed.
func (h *holdBack) block(f *Fact) {
	if h.admit(f) {
		h.next.forget(func(t token) bool { return h.fitsWith(t, f) })
	}
}

// release lets pass what a fact that is gone alone stood against.
func (h *holdBack) release(f *Fact) {
	if !h.dismiss(f) {
		return
	}
	for _, t := range h.tokens {
		if h.fitsWith(t, f) && !h.blocked(t) {
			h.next.arrive(t)
		}
	}
}

// last is the node behind all conditions: what arrives there is a match. Those
// that it remembers and that wait no longer have fired.
type last struct {
	memory
	waiting agenda
	rule    int
	joins   int // how many facts a match has
}

func (l *last) arrive(t token) {
	l.keep(t)
	l.waiting.put(t)
}

func (l *last) forget(gone func(t token) bool) {
	l.memory.forget(gone)
	l.waiting.forget(gone)
}

// now answers an iterator over the matches of this moment, in their order: what
// the node learns later does not reach it. Each match is made when its turn
// comes, so that leaving early spares the others.
func (l *last) now() iter.Seq[api.Match] {
	tokens := slices.Clone(l.tokens)
	slices.SortFunc(tokens, compareFacts)
	return func(yield func(api.Match) bool) {
		for _, t := range tokens {
			if !yield(l.match(t)) {
				return
			}
		}
	}
}

func (l *last) match(t token) api.Match {
	numbers := t.numbers()
	return api.Match{Rule: l.rule, Facts: append([]int(nil), numbers[:l.joins]...)}
}

// numbers are those of the token's facts, 0 where it has none.
func (t token) numbers() [api.MaxConds]int {
	var list [api.MaxConds]int
	for i, f := range t {
		if f != nil {
			list[i] = f.ID
		}
	}
	return list
}

// compareFacts answers less than 0 if t stands ahead of the other in their order.
func compareFacts(t, other token) int {
	numbers, others := t.numbers(), other.numbers()
	return slices.Compare(numbers[:], others[:])
}
