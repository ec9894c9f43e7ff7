// Package sieve: rules, facts, and what matches: see DOC.md.
package sieve

import (
	"errors"
	"iter"

	"sieve/api"
	"sieve/rules"
)

// Plain writes rules in their plain form (P4).
func Plain(text string) (string, int, api.Errno) {
	list, err := rules.Parse(text)
	if err != nil {
		at, errno := refusal(err)
		return "", at, errno
	}
	return rules.Plain(list), len(list), api.OK
}

// refusal turns what is wrong with a text into the numbers that Plain answers.
func refusal(err error) (int, api.Errno) {
	// Of a broken bound the place is not told.
	if errors.Is(err, rules.ErrLimit) {
		return 0, api.ErrLimit
	}
	var fault *rules.Fault
	if errors.As(err, &fault) {
		return fault.At, api.ErrText
	}
	return 0, api.ErrText
}

// Net knows what matches.
type Net struct{}

// New makes a net of rules (P5).
func New(text string) (*Net, api.Errno) { return nil, api.OK }

// Add adds a fact (P6).
func (n *Net) Add(f api.Fact) (int, api.Errno) { return 0, api.OK }

// Remove takes a fact away (P6).
func (n *Net) Remove(id int) api.Errno { return api.OK }

// Facts tells the facts (P6).
func (n *Net) Facts() ([]int, []api.Fact) { return nil, nil }

// Matches tells all matches (P7).
func (n *Net) Matches() []api.Match { return nil }

// All goes through the matches (P8).
func (n *Net) All() iter.Seq[api.Match] { return func(yield func(api.Match) bool) {} }

// Fire tells what is to fire next (P9).
func (n *Net) Fire() (api.Match, api.Errno) { return api.Match{}, api.OK }
