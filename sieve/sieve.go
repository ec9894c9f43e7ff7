// Package sieve: rules, facts, and what matches: see DOC.md.
package sieve

import (
	"errors"
	"iter"
	"slices"

	"sieve/api"
	"sieve/nodes"
	"sieve/rules"
)

const maxKind = 9 // of a fact

// Plain writes rules in their plain form (P4).
func Plain(text string) (string, int, api.Errno) {
	list, err := rules.Parse(text)
	if err != nil {
		at, errno := refusal(err)
		return "", at, errno
	}
	return rules.Plain(list), len(list), api.OK
}

// refusal turns what is wrong with a text into the numbers that Plain answers.
func refusal(err error) (int, api.Errno) {
	// Of a broken bound the place is not told.
	if errors.Is(err, rules.ErrLimit) {
		return 0, api.ErrLimit
	}
	var fault *rules.Fault
	if errors.As(err, &fault) {
		return fault.At, api.ErrText
	}
	return 0, api.ErrText
}

// Net knows what matches.
type Net struct {
	nodes *nodes.Net
	facts []*nodes.Fact // those that are there, the lesser number first
	given int           // the number that was given last
}

// New makes a net of rules (P5).
func New(text string) (*Net, api.Errno) {
	list, err := rules.Parse(text)
	if err != nil {
		_, errno := refusal(err)
		return nil, errno
	}
	return &Net{nodes: nodes.New(list)}, api.OK
}

// Add adds a fact (P6).
func (n *Net) Add(f api.Fact) (int, api.Errno) {
	if !isFact(f) {
		return 0, api.ErrFact
	}
	if len(n.facts) >= api.MaxFacts {
		return 0, api.ErrFull
	}
	n.given++
	added := &nodes.Fact{Fact: copyOf(f), ID: n.given}
	n.facts = append(n.facts, added)
	n.nodes.Add(added)
	return added.ID, api.OK
}

func isFact(f api.Fact) bool {
	if f.Kind < 0 || f.Kind > maxKind || len(f.Values) > api.MaxTerms {
		return false
	}
	for _, v := range f.Values {
		if v < -api.MaxNumber || v > api.MaxNumber {
			return false
		}
	}
	return true
}

// copyOf appends to nil, because a clone of an empty list would still point into it.
func copyOf(f api.Fact) api.Fact {
	return api.Fact{Kind: f.Kind, Values: append([]int(nil), f.Values...)}
}

// Remove takes a fact away (P6).
func (n *Net) Remove(id int) api.Errno {
	at := slices.IndexFunc(n.facts, func(f *nodes.Fact) bool { return f.ID == id })
	if at < 0 {
		return api.ErrNone
	}
	gone := n.facts[at]
	n.facts = slices.Delete(n.facts, at, at+1)
	n.nodes.Remove(gone)
	return api.OK
}

// Facts tells the facts (P6).
func (n *Net) Facts() ([]int, []api.Fact) {
	var ids []int
	var list []api.Fact
	for _, f := range n.facts {
		ids = append(ids, f.ID)
		list = append(list, copyOf(f.Fact))
	}
	return ids, list
}

// Matches tells all matches (P7).
func (n *Net) Matches() []api.Match { return n.nodes.Matches() }

// All goes through the matches (P8).
func (n *Net) All() iter.Seq[api.Match] { return n.nodes.All() }

// Fire tells what is to fire next (P9).
func (n *Net) Fire() (api.Match, api.Errno) {
	fired, found := n.nodes.Fire()
	if !found {
		return api.Match{}, api.ErrNone
	}
	return fired, api.OK
}
