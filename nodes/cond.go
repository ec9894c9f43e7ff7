package nodes

import (
	"slices"

	"sieve/rules"
)

// site is where a variable is bound: by which of a token's facts, at which of its values.
type site struct {
	letter byte
	fact   int
	place  int
}

// bindAt adds the sites of the variables of these terms, which a token's fact at
// this index meets. A letter may get several: they all have one value.
func bindAt(ahead []site, fact int, terms []rules.Term) []site {
	for place, term := range terms {
		if term.Sort == rules.Variable {
			ahead = append(ahead, site{letter: term.Letter, fact: fact, place: place})
		}
	}
	return ahead
}

func find(sites []site, letter byte) (site, bool) {
	for _, s := range sites {
		if s.letter == letter {
			return s, true
		}
	}
	return site{}, false
}

// link asks that the value at a place be the one that is bound at a site ahead.
type link struct {
	place int
	from  site
}

// cond is a condition. It knows where its variables are bound ahead, so that a
// token need not carry their values: its facts have them.
type cond struct {
	kind  int
	terms []rules.Term
	links []link
}

func newCond(c rules.Cond, ahead []site) cond {
	made := cond{kind: c.Kind, terms: c.Terms}
	for place, term := range c.Terms {
		if term.Sort != rules.Variable {
			continue
		}
		if from, bound := find(ahead, term.Letter); bound {
			made.links = append(made.links, link{place: place, from: from})
		}
	}
	return made
}

// fitsAlone: f meets the condition for some values of what is bound ahead.
func (c *cond) fitsAlone(f *Fact) bool {
	if f.Kind != c.kind || len(f.Values) != len(c.terms) {
		return false
	}
	for place, term := range c.terms {
		if !c.fitsAt(place, term, f.Values) {
			return false
		}
	}
	return true
}

func (c *cond) fitsAt(place int, term rules.Term, values []int) bool {
	switch term.Sort {
	case rules.Number:
		return values[place] == term.Value
	case rules.Variable:
		// Bound ahead or not: where it stands twice, one value is asked for.
		return values[place] == values[slices.Index(c.terms, term)]
	}
	return true
}

// fitsWith: f, which fits alone, meets the condition with what t has bound.
func (c *cond) fitsWith(t token, f *Fact) bool {
	for _, l := range c.links {
		if f.Values[l.place] != t[l.from.fact].Values[l.from.place] {
			return false
		}
	}
	return true
}
