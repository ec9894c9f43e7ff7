// Package nodes: the net of nodes that knows what matches.
package nodes

import (
	"iter"
	"slices"

	"sieve/api"
	"sieve/rules"
)

// Net knows the matches of its rules, by a chain of nodes for each.
type Net struct {
	chains []*chain
}

// New makes a net that has learned of no fact.
func New(list []rules.Rule) *Net {
	n := &Net{}
	for i, r := range list {
		n.chains = append(n.chains, newChain(i, r))
	}
	return n
}

// Add lets the net learn of a new fact, and keeps it.
func (n *Net) Add(f *Fact) {
	for _, c := range n.chains {
		c.add(f)
	}
}

// Remove lets the net forget a fact that it was told by Add.
func (n *Net) Remove(f *Fact) {
	for _, c := range n.chains {
		c.remove(f)
	}
}

// Matches tells all matches, in their order.
func (n *Net) Matches() []api.Match { return slices.Collect(n.All()) }

// All goes through all matches, in their order, as they are when that is begun.
func (n *Net) All() iter.Seq[api.Match] {
	return func(yield func(api.Match) bool) {
		// Those of all rules ahead of the first yield: in it, the net may change.
		var all []iter.Seq[api.Match]
		for _, c := range n.chains {
			all = append(all, c.end.now())
		}
		for _, ofRule := range all {
			for m := range ofRule {
				if !yield(m) {
					return
				}
			}
		}
	}
}

// Fire tells the newest match that has not fired, of those alike the first in
// their order, and false if there is none. It has fired then.
func (n *Net) Fire() (api.Match, bool) {
	var from *last
	var newest token
	for _, c := range n.chains {
		t, waits := c.end.waiting.next()
		// Of two rules' that are alike, the one of the rule ahead stays.
		if waits && (from == nil || compareAges(t, newest) > 0) {
			from, newest = c.end, t
		}
	}
	if from == nil {
		return api.Match{}, false
	}
	from.waiting.take()
	return from.match(newest), true
}

// chain is the nodes of a rule: of its conditions, the hindmost first, and the last one.
type chain struct {
	nodes []node
	first node // of the first condition
	end   *last
}

func newChain(rule int, r rules.Rule) *chain {
	c := &chain{end: &last{rule: rule}}
	c.first = c.build(r.Conds, nil)
	// Ahead of the first condition nothing is asked: there, no facts are a match.
	c.first.arrive(token{})
	return c
}

// build makes the nodes of these conditions, the variables being bound at the
// sites ahead, and answers the foremost. Those behind are made first, so that
// each knows the next one.
func (c *chain) build(conds []rules.Cond, ahead []site) node {
	if len(conds) == 0 {
		return c.end
	}
	made := newCond(conds[0], ahead)
	var n node
	if conds[0].Negated {
		n = &holdBack{step{cond: made, next: c.build(conds[1:], ahead)}}
	} else {
		place := c.end.joins
		c.end.joins++
		behind := c.build(conds[1:], bindAt(ahead, place, conds[0].Terms))
		n = &join{step: step{cond: made, next: behind}, place: place}
	}
	c.nodes = append(c.nodes, n)
	return n
}

// add tells a new fact to each node once, and it is held against what has
// arrived there until then; what arrives later finds it known. So the two meet
// once, in whatever order the nodes are told. From the front, nothing is joined
// that a negated condition is about to take back.
func (c *chain) add(f *Fact) {
	for _, n := range slices.Backward(c.nodes) {
		switch n := n.(type) {
		case *join:
			n.extend(f)
		case *holdBack:
			n.block(f)
		}
	}
}

// remove takes back what a fact that is gone was joined to, and tells it to each
// node once. From behind, so that what a node lets pass then finds no node that
// still knows the fact.
func (c *chain) remove(f *Fact) {
	c.first.forget(func(t token) bool { return slices.Contains(t[:], f) })
	for _, n := range c.nodes {
		switch n := n.(type) {
		case *join:
			n.dismiss(f)
		case *holdBack:
			n.release(f)
		}
	}
}
