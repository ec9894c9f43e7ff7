package sieve_test

import (
	"fmt"
	"maps"
	"math/rand/v2"
	"slices"
	"strconv"
	"strings"
	"testing"

	"sieve/api"
	"sieve/sieve"
)

// wantMatches: these are all, each as its rule and its facts.
func wantMatches(t *testing.T, net *sieve.Net, want ...string) {
	t.Helper()
	if got := tell(net.Matches()); !slices.Equal(got, want) {
		t.Errorf("Matches = %v, want %v", got, want)
	}
}

func tell(list []api.Match) []string {
	var told []string
	for _, m := range list {
		told = append(told, fmt.Sprintf("%d%v", m.Rule, m.Facts))
	}
	return told
}

func addAll(t *testing.T, net *sieve.Net, facts ...api.Fact) {
	t.Helper()
	for _, f := range facts {
		if _, errno := net.Add(f); errno != api.OK {
			t.Fatalf("Add(%v): %d", f, errno)
		}
	}
}

// P7: the document's example, as far as facts come (the rest stands with P9).
func TestP7Example(t *testing.T) {
	net := newNet(t, "p:(1 x y)(2 y);q:(1 x x)!(2 x);")
	wantMatches(t, net)
	addAll(t, net, fact(1, 5, 6))
	wantMatches(t, net)
	addAll(t, net, fact(2, 6))
	wantMatches(t, net, "0[1 2]")
	addAll(t, net, fact(1, 7, 7))
	wantMatches(t, net, "0[1 2]", "1[3]")
	addAll(t, net, fact(2, 7))
	wantMatches(t, net, "0[1 2]", "0[3 4]")
}

// P7: what it takes to meet a condition, and to be a match.
func TestP7WhatMatches(t *testing.T) {
	facts := []api.Fact{
		fact(1), fact(1, 5), fact(1, 6), fact(1, 5, 5), fact(1, 5, 6), fact(2, 5), fact(2, 7), fact(3, 6, 5),
		fact(9, api.MaxNumber, -api.MaxNumber), fact(0, 0),
	}
	for _, c := range []struct {
		text string
		want string
	}{
		{"a:(1);", "0[1]"},
		{"a:(4);", ""},
		{"a:(1 _);", "0[2] 0[3]"},
		{"a:(1 _ _);", "0[4] 0[5]"},
		{"a:(1 _ _ _);", ""},
		{"a:(1 05);", "0[2]"},
		{"a:(1 -5);", ""},
		{"a:(1 x x);", "0[4]"},
		{"a:(1 x y);", "0[4] 0[5]"},
		{"a:(1 x 6);", "0[5]"},
		{"a:(9 999999999 -999999999);", "0[9]"},
		{"a:(9 -999999999 999999999);", ""},
		{"a:(0 -0);", "0[10]"},
		// one fact for several conditions
		{"a:(1)(1)(1)(1);", "0[1 1 1 1]"},
		{"a:(1 x)(1 y);", "0[2 2] 0[2 3] 0[3 2] 0[3 3]"},
		{"a:(1 x)(1 x);", "0[2 2] 0[3 3]"},
		// bound ahead, from every place to every place
		{"a:(1 x)(2 x);", "0[2 6]"},
		{"a:(2 x)(1 x);", "0[6 2]"},
		{"a:(1 x y)(3 y x);", "0[5 8]"},
		{"a:(1 x y)(3 x y);", ""},
		{"a:(1 x y)(1 y)(2 x);", "0[4 2 6] 0[5 3 6]"},
		{"a:(2 x)(1 x x);", "0[6 4]"},
		{"a:(2 7)(1 x)(1 x x)(2 x);", "0[7 2 4 6]"},
		{"a:(1 _)(2 _);", "0[2 6] 0[2 7] 0[3 6] 0[3 7]"},
		// negated
		{"a:(1 x)!(2 x);", "0[3]"},
		{"a:(2 x)!(1 x);", "0[7]"},
		{"a:(1)!(4);", "0[1]"},
		{"a:(1)!(1);", ""},
		{"a:(1 x)!(1 x);", ""},
		{"a:(1 x)!(2 _);", ""},
		{"a:(1 x)!(2 8);", "0[2] 0[3]"},
		{"a:(1 x)!(1 x x);", "0[3]"},
		{"a:(1 x)!(1 x _)(2 7);", "0[3 7]"},
		{"a:(1 x)!(2 x)!(3 x _);", ""},
		{"a:(1 x)!(2 x)!(3 _ x);", "0[3]"},
		// what a negated condition would bind is bound nowhere else
		{"a:(1)!(4 y)(2 y);", "0[1 6] 0[1 7]"},
		{"a:(1)!(3 y y)(2 y);", "0[1 6] 0[1 7]"},
		{"a:(1)!(1 y y)(2 y);", ""},
		{"a:(1)!(2 y)(2 y);", ""},
		{"a:(1)!(4 y)!(2 y);", ""},
		{"a:(1 x)!(2 y)(1 x y);", ""},
		{"a:(2 7)(2 y)!(1 y);", "0[7 7]"},
		{"a:(2 y)!(1 y)(1 y x)(2 x);", ""},
		{"a:(1)!(1 y 7)(2 y)(1 y);", "0[1 6 2]"},
		// several rules, by their place and not by their names
		{"b:(2 x);a:(1);b:(2 x);", "0[6] 0[7] 1[1] 2[6] 2[7]"},
		{"a:(4);b:(4);c:(1);", "2[1]"},
		{"x:(1 x);y:(2 x);", "0[2] 0[3] 1[6] 1[7]"},
	} {
		net := newNet(t, c.text)
		addAll(t, net, facts...)
		for range 2 {
			if got := strings.Join(tell(net.Matches()), " "); got != c.want {
				t.Errorf("%s: Matches = %s, want %s", c.text, got, c.want)
			}
		}
	}
}

// P7: ordered by the facts as numbers, also where one has two digits.
func TestP7Order(t *testing.T) {
	net := newNet(t, "a:(1 _)(1 _);")
	var want []string
	for i := 1; i <= 12; i++ {
		addAll(t, net, fact(1, i))
		for k := 1; k <= 12; k++ {
			want = append(want, fmt.Sprintf("0[%d %d]", i, k))
		}
	}
	wantMatches(t, net, want...)
}

// P7: in whatever order the same facts come, the same matches are there.
func TestP7AnyOrderOfComing(t *testing.T) {
	const text = "a:(1 x)(1 y)!(2 x y);b:(1 x)!(2 x _)(1 y);c:(2 x y)(1 y)!(1 7);d:(1 x)!(2 y x)!(1 y);"
	facts := []api.Fact{fact(1, 5), fact(1, 6), fact(2, 5, 6), fact(2, 6, 6), fact(1, 5)}
	first := newNet(t, text)
	addAll(t, first, facts...)
	want := tell(first.Matches())
	if len(want) == 0 {
		t.Fatal("nothing matches")
	}
	for _, order := range orders(len(facts)) {
		net := newNet(t, text)
		for _, i := range order {
			addAll(t, net, facts[i])
		}
		got := net.Matches()
		for _, m := range got {
			for k, id := range m.Facts {
				m.Facts[k] = order[id-1] + 1
			}
		}
		slices.SortFunc(got, func(a, b api.Match) int {
			return slices.Compare(append([]int{a.Rule}, a.Facts...), append([]int{b.Rule}, b.Facts...))
		})
		if told := tell(got); !slices.Equal(told, want) {
			t.Errorf("in the order %v: %v, want %v", order, told, want)
		}
	}
}

// orders are all in which the numbers below n can stand.
func orders(n int) [][]int {
	if n == 0 {
		return [][]int{nil}
	}
	var all [][]int
	for _, shorter := range orders(n - 1) {
		for at := range n {
			all = append(all, slices.Insert(slices.Clone(shorter), at, n-1))
		}
	}
	return all
}

// P2: what Matches answers is the caller's, and no two lists of it share room.
func TestP2MatchesAnswersNewMemory(t *testing.T) {
	net := newNet(t, "a:(1 x)(1 y);b:(1 x)!(2 x);")
	addAll(t, net, fact(1, 5), fact(1, 6), fact(2, 5))
	for range 2 {
		list := net.Matches()
		var lists [][]int
		for _, m := range list {
			lists = append(lists, m.Facts)
		}
		wantApart(t, lists)
		clear(list[:cap(list)])
		wantMatches(t, net, "0[1 1]", "0[1 2]", "0[2 1]", "0[2 2]", "1[2]")
	}
	before := net.Matches()
	addAll(t, net, fact(2, 6), fact(1, 7))
	if got := tell(before); !slices.Equal(got, []string{"0[1 1]", "0[1 2]", "0[2 1]", "0[2 2]", "1[2]"}) {
		t.Errorf("what was answered has become %v", got)
	}
}

// P2: a net's answers hang on the calls on it alone, and asking changes nothing.
func TestP2NetsKeepApart(t *testing.T) {
	const text = "a:(1 x)!(2 x);"
	one, other := newNet(t, text), newNet(t, text)
	addAll(t, one, fact(1, 5))
	wantMatches(t, other)
	addAll(t, other, fact(2, 5), fact(1, 5), fact(1, 6))
	for range 2 {
		wantMatches(t, one, "0[1]")
		wantFacts(t, one, fact(1, 5))
		wantMatches(t, other, "0[3]")
		wantFacts(t, other, fact(2, 5), fact(1, 5), fact(1, 6))
	}
}

// netOfMostMatches: more there can't be, by the bounds of package api.
func netOfMostMatches(t *testing.T) *sieve.Net {
	t.Helper()
	net := newNet(t, strings.Repeat("a:(1)(1)(1)(1);", 8))
	for range api.MaxFacts {
		addAll(t, net, fact(1))
	}
	return net
}

// P1: the most matches that there can be, and the most that one fact can take back.
func TestP1MostMatches(t *testing.T) {
	net := netOfMostMatches(t)
	const each = api.MaxFacts * api.MaxFacts * api.MaxFacts * api.MaxFacts
	list := net.Matches()
	if len(list) != 8*each {
		t.Fatalf("there are %d matches, want %d", len(list), 8*each)
	}
	for i, m := range list {
		rest := i % each
		want := []int{rest/4096 + 1, rest/256%16 + 1, rest/16%16 + 1, rest%16 + 1}
		if m.Rule != i/each || !slices.Equal(m.Facts, want) {
			t.Fatalf("the %d-th match is %v, want rule %d with %v", i, m, i/each, want)
		}
	}

	net = newNet(t, strings.Repeat("a:(1)(1)(1)!(2);", 8))
	for range api.MaxFacts - 1 {
		addAll(t, net, fact(1))
	}
	if got := len(net.Matches()); got != 8*15*15*15 {
		t.Errorf("there are %d matches, want %d", got, 8*15*15*15)
	}
	addAll(t, net, fact(2))
	wantMatches(t, net)
}

// pattern is a condition as the test writes it; its terms are letters, `_` or numbers.
type pattern struct {
	negated bool
	kind    int
	terms   []string
}

func (p pattern) String() string {
	text := fmt.Sprintf("(%d %s)", p.kind, strings.Join(p.terms, " "))
	if p.negated {
		return "!" + text
	}
	return text
}

// meets is the document's sentence: what is bound then, and whether it does.
func (p pattern) meets(f api.Fact, bound map[string]int) (map[string]int, bool) {
	if f.Kind != p.kind || len(f.Values) != len(p.terms) {
		return nil, false
	}
	now := map[string]int{}
	maps.Copy(now, bound)
	for i, term := range p.terms {
		want, err := strconv.Atoi(term)
		if err != nil {
			known := false
			if want, known = now[term]; !known {
				want = f.Values[i]
			}
			if term != "_" {
				now[term] = want
			}
		}
		if want != f.Values[i] {
			return nil, false
		}
	}
	return now, true
}

// holding is the facts that are there, by their numbers.
type holding struct {
	ids   []int
	facts []api.Fact
}

// search tries all facts for all conditions, the lesser numbers first, and so finds the matches in their order.
func (h holding) search(rule int, conds []pattern, bound map[string]int, chosen []int) []api.Match {
	if len(conds) == 0 {
		return []api.Match{{Rule: rule, Facts: slices.Clone(chosen)}}
	}
	var found []api.Match
	for i, f := range h.facts {
		now, ok := conds[0].meets(f, bound)
		if ok && conds[0].negated {
			return nil
		}
		if ok {
			found = append(found, h.search(rule, conds[1:], now, append(chosen, h.ids[i]))...)
		}
	}
	if conds[0].negated {
		return h.search(rule, conds[1:], bound, chosen)
	}
	return found
}

func (h holding) matches(rules [][]pattern) []api.Match {
	var all []api.Match
	for i, conds := range rules {
		all = append(all, h.search(i, conds, nil, nil)...)
	}
	return all
}

func someTerm(r *rand.Rand) string {
	return []string{"x", "y", "z", "x", "y", "_", "0", "1"}[r.IntN(8)]
}

// someRules are few of kinds, letters and numbers, so that much matches.
func someRules(r *rand.Rand) [][]pattern {
	rules := make([][]pattern, 1+r.IntN(3))
	for i := range rules {
		for k := range 1 + r.IntN(api.MaxConds) {
			p := pattern{negated: k > 0 && r.IntN(3) == 0, kind: 1 + r.IntN(2)}
			for range r.IntN(3) {
				p.terms = append(p.terms, someTerm(r))
			}
			rules[i] = append(rules[i], p)
		}
	}
	return rules
}

func someFact(r *rand.Rand) api.Fact {
	f := fact(1 + r.IntN(2))
	for range r.IntN(3) {
		f.Values = append(f.Values, r.IntN(3))
	}
	return f
}

func textOf(rules [][]pattern) string {
	text := ""
	for _, conds := range rules {
		text += "a:"
		for _, p := range conds {
			text += p.String()
		}
		text += ";"
	}
	return text
}

// P6, P7: after each fact that comes, what the net knows is what a search of all facts finds.
func TestP7AgainstSearch(t *testing.T) {
	r := rand.New(rand.NewPCG(1, 2))
	for range 5000 {
		rules := someRules(r)
		text := textOf(rules)
		net := newNet(t, text)
		var there holding
		for id := 1; id <= 12; id++ {
			f := someFact(r)
			wantAdd(t, net, f, id, api.OK)
			there.ids, there.facts = append(there.ids, id), append(there.facts, f)
			want := tell(there.matches(rules))
			if got := tell(net.Matches()); !slices.Equal(got, want) {
				t.Fatalf("%s with %v: Matches = %v, want %v", text, there.facts, got, want)
			}
		}
		wantFacts(t, net, there.facts...)
	}
}
