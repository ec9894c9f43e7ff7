package sieve_test

import (
	"cmp"
	"math/rand/v2"
	"slices"
	"strings"
	"testing"

	"sieve/api"
	"sieve/sieve"
)

// wantFire: this is fired, as its rule and its facts; if it is empty, nothing is.
func wantFire(t *testing.T, net *sieve.Net, want string) {
	t.Helper()
	fired, errno := net.Fire()
	if want == "" {
		if fired.Rule != 0 || len(fired.Facts) != 0 || errno != api.ErrNone {
			t.Errorf("Fire = %v, %d, want nothing, ErrNone", fired, errno)
		}
		return
	}
	if got := tell([]api.Match{fired})[0]; got != want || errno != api.OK {
		t.Errorf("Fire = %s, %d, want %s, OK", got, errno, want)
	}
}

// wantFires: these are fired, and then nothing is left.
func wantFires(t *testing.T, net *sieve.Net, want ...string) {
	t.Helper()
	for _, w := range want {
		wantFire(t, net, w)
	}
	wantFire(t, net, "")
}

// P9: the document's example.
func TestP9Example(t *testing.T) {
	net := newNet(t, "p:(1 x y)(2 y);q:(1 x x)!(2 x);")
	addAll(t, net, fact(1, 5, 6), fact(2, 6), fact(1, 7, 7), fact(2, 7))
	wantFire(t, net, "0[3 4]")
	removeAll(t, net, 4)
	wantMatches(t, net, "0[1 2]", "1[3]")
	wantFires(t, net, "1[3]", "0[1 2]")
	wantAdd(t, net, fact(2, 7), 5, api.OK)
	wantMatches(t, net, "0[1 2]", "0[3 5]")
	wantFires(t, net, "0[3 5]")
	removeAll(t, net, 5)
	wantFires(t, net, "1[3]")
}

// P9: which is the newest.
func TestP9Newest(t *testing.T) {
	one, two := fact(1), fact(2)
	for _, c := range []struct {
		text  string
		facts []api.Fact
		want  string
	}{
		{"a:(1);", []api.Fact{one, one, one}, "0[3] 0[2] 0[1]"},
		// the greatest number, wherever it stands; then the next one
		{"a:(1)(2);", []api.Fact{one, two, two, one}, "0[4 3] 0[4 2] 0[1 3] 0[1 2]"},
		{"a:(2)(1);", []api.Fact{one, two, two, one}, "0[3 4] 0[2 4] 0[3 1] 0[2 1]"},
		{"a:(1 1)(1 2)(1 3)(2 _);", []api.Fact{fact(1, 1), fact(1, 2), fact(1, 3), fact(2, 5), fact(2, 6), fact(1, 2)},
			"0[1 6 3 5] 0[1 6 3 4] 0[1 2 3 5] 0[1 2 3 4]"},
		// each number as often as it stands there
		{"a:(1)(1);", []api.Fact{one, one}, "0[2 2] 0[1 2] 0[2 1] 0[1 1]"},
		{"a:(1)(1)(1);", []api.Fact{one, one}, "0[2 2 2] 0[1 2 2] 0[2 1 2] 0[2 2 1] 0[1 1 2] 0[1 2 1] 0[2 1 1] 0[1 1 1]"},
		{"a:(1)(2)(2);b:(1)(1)(2);", []api.Fact{two, one}, "1[2 2 1] 0[2 1 1]"},
		// one that has no more numbers is older
		{"a:(1);b:(1)(1);c:(1)(1)(1);d:(1)(1)(1)(1);", []api.Fact{one}, "3[1 1 1 1] 2[1 1 1] 1[1 1] 0[1]"},
		{"a:(2);b:(1)(2);", []api.Fact{one, two}, "1[1 2] 0[2]"},
		{"a:(2);b:(2)(1);", []api.Fact{one, two}, "1[2 1] 0[2]"},
		// but a greater number is newer than many lesser ones
		{"a:(1)(1)(1)(1);b:(2);", []api.Fact{one, two}, "1[2] 0[1 1 1 1]"},
		// negated conditions give no number
		{"a:(1)!(3);b:(1)(1);c:(1)!(3)!(3)(1);", []api.Fact{one}, "1[1 1] 2[1 1] 0[1]"},
		// alike: by the rule, then by the facts in the order of the conditions
		{"a:(1);b:(1);a:(1);", []api.Fact{one, one}, "0[2] 1[2] 2[2] 0[1] 1[1] 2[1]"},
		{"a:(2)(1);b:(1)(2);", []api.Fact{one, two}, "0[2 1] 1[1 2]"},
		{"a:(1)(2);b:(2)(1);", []api.Fact{one, two}, "0[1 2] 1[2 1]"},
	} {
		net := newNet(t, c.text)
		addAll(t, net, c.facts...)
		if got := strings.Join(fireAll(net), " "); got != c.want {
			t.Errorf("%s with %v: %s fired, want %s", c.text, c.facts, got, c.want)
		}
	}
}

// fireAll stops at far more than a test lets match, so that it ends also where firing does not.
func fireAll(net *sieve.Net) []string {
	var all []api.Match
	for range 1000 {
		fired, errno := net.Fire()
		if errno != api.OK {
			break
		}
		all = append(all, fired)
	}
	return tell(all)
}

// P9: by the facts as numbers, also where one has two digits; whichever have gone before.
func TestP9NewestOfMany(t *testing.T) {
	for _, gone := range [][]int{nil, {1}, {12}, {5, 9}, {10, 11, 12}, {12, 1, 7, 4, 10}} {
		net := newNet(t, "a:(1)(1);b:(1)(1)(1)!(2);")
		for range 12 {
			addAll(t, net, fact(1))
		}
		removeAll(t, net, gone...)
		for id := 13; id < 15; id++ {
			addAll(t, net, fact(2))
			removeAll(t, net, id)
		}
		want := net.Matches()
		slices.SortFunc(want, turn)
		wantFires(t, net, tell(want)...)
	}
}

// P9: with nothing to fire; P1: nothing is changed by asking.
func TestP9None(t *testing.T) {
	for _, text := range []string{"", "a:(1);", "a:(1)!(2);"} {
		net := newNet(t, text)
		wantFires(t, net)
		wantFires(t, net)
		addAll(t, net, fact(2))
		wantFires(t, net)
		wantHolding(t, net, holding{[]int{1}, []api.Fact{fact(2)}})
	}
	net := newNet(t, "a:(1);")
	for id := 1; id <= 3; id++ {
		addAll(t, net, fact(1))
		wantFires(t, net, tell([]api.Match{{Facts: []int{id}}})...)
		wantFires(t, net)
	}
}

// P9: what has fired still matches, and fires no more while it does.
func TestP9FiresOnce(t *testing.T) {
	net := newNet(t, "a:(1 x)!(2 x);b:(1 _);")
	addAll(t, net, fact(1, 5), fact(1, 6))
	wantFires(t, net, "0[2]", "1[2]", "0[1]", "1[1]")
	wantMatches(t, net, "0[1]", "0[2]", "1[1]", "1[2]")
	wantFacts(t, net, fact(1, 5), fact(1, 6))
	addAll(t, net, fact(2, 7), fact(2, 6), fact(3))
	wantFires(t, net)
	removeAll(t, net, 3, 5)
	wantFires(t, net)
	wantMatches(t, net, "0[1]", "1[1]", "1[2]")
	removeAll(t, net, 2)
	wantFires(t, net)
	wantMatches(t, net, "0[1]", "1[1]")
}

// P9: what has ceased does not fire, whether it waited for long or had not been asked for.
func TestP9CeasedDoesNotFire(t *testing.T) {
	net := newNet(t, "a:(1 x)!(2 x);")
	addAll(t, net, fact(1, 1), fact(1, 2), fact(1, 3), fact(1, 4), fact(1, 5))
	removeAll(t, net, 5, 2)
	addAll(t, net, fact(2, 3))
	wantFires(t, net, "0[4]", "0[1]")
	removeAll(t, net, 6)
	wantFires(t, net, "0[3]")
}

// P9: what ceased and comes to be once more has not fired, by whichever condition it was held back.
func TestP9Forgotten(t *testing.T) {
	for _, text := range []string{"a:(1 x)!(2 x);", "a:(1 x)!(2 x)!(3);", "a:(1 x)!(3)!(2 x);", "a:(1 x)!(2 _);", "a:(1 x)!(2 x)!(2 x);"} {
		net := newNet(t, text)
		addAll(t, net, fact(1, 5))
		wantFires(t, net, "0[1]")
		for id := 2; id < 20; id += 2 {
			addAll(t, net, fact(2, 5), fact(2, 5))
			wantFires(t, net)
			removeAll(t, net, id+1)
			wantFires(t, net)
			removeAll(t, net, id)
			wantFires(t, net, "0[1]")
		}
	}
	net := newNet(t, "a:(1 x)!(2 x)(3);")
	addAll(t, net, fact(3), fact(1, 5), fact(1, 6))
	wantFires(t, net, "0[3 1]", "0[2 1]")
	addAll(t, net, fact(2, 6))
	removeAll(t, net, 4)
	wantFires(t, net, "0[3 1]")
	// A fact like one that is gone is another one, and so are its matches.
	removeAll(t, net, 1)
	addAll(t, net, fact(3))
	wantFires(t, net, "0[3 5]", "0[2 5]")
}

// P2: what Fire answers is the caller's.
func TestP2FireAnswersNewMemory(t *testing.T) {
	net := newNet(t, "a:(1)(1)(1);b:(1)!(2);")
	addAll(t, net, fact(1), fact(1))
	var lists [][]int
	for range 10 {
		fired, errno := net.Fire()
		if errno != api.OK {
			t.Fatalf("Fire: %d", errno)
		}
		lists = append(lists, fired.Facts)
	}
	matches := net.Matches()
	want := tell(matches)
	for _, m := range matches {
		lists = append(lists, m.Facts)
	}
	wantApart(t, lists)
	wantMatches(t, net, want...)
	wantFires(t, net)
}

// P2: what one net has fired, another has not.
func TestP2FireKeepsApart(t *testing.T) {
	one, other := newNet(t, "a:(1);"), newNet(t, "a:(1);")
	addAll(t, one, fact(1))
	addAll(t, other, fact(1))
	wantFires(t, one, "0[1]")
	wantFires(t, other, "0[1]")
}

// P1: the most matches that there can be all fire, in their turn.
func TestP1FireMostMatches(t *testing.T) {
	net := netOfMostMatches(t)
	ahead := api.Match{Facts: []int{17, 17, 17, 17}}
	for range 8 * api.MaxFacts * api.MaxFacts * api.MaxFacts * api.MaxFacts {
		fired, errno := net.Fire()
		if errno != api.OK || turn(ahead, fired) >= 0 {
			t.Fatalf("Fire = %v, %d behind %v", fired, errno, ahead)
		}
		ahead = fired
	}
	wantFires(t, net)
}

// turn is less than 0 if a fires ahead of b.
func turn(a, b api.Match) int {
	newest, other := slices.Sorted(slices.Values(a.Facts)), slices.Sorted(slices.Values(b.Facts))
	for len(newest) > 0 && len(other) > 0 {
		i, k := len(newest)-1, len(other)-1
		if newest[i] != other[k] {
			return other[k] - newest[i]
		}
		newest, other = newest[:i], other[:k]
	}
	return cmp.Or(len(other)-len(newest), a.Rule-b.Rule, slices.Compare(a.Facts, b.Facts))
}

// model is a net as the document tells it, which searches all facts each time.
type model struct {
	rules [][]pattern
	holding
	given int
	fired []string // of the matches that are
}

func (m *model) add(f api.Fact) {
	m.given++
	m.ids, m.facts = append(m.ids, m.given), append(m.facts, f)
	m.forget()
}

func (m *model) remove(at int) {
	m.ids, m.facts = slices.Delete(m.ids, at, at+1), slices.Delete(m.facts, at, at+1)
	m.forget()
}

func (m *model) forget() {
	now := tell(m.matches(m.rules))
	m.fired = slices.DeleteFunc(m.fired, func(told string) bool { return !slices.Contains(now, told) })
}

// fire tells the match, or nothing.
func (m *model) fire() string {
	waiting := slices.DeleteFunc(m.matches(m.rules), func(match api.Match) bool {
		return slices.Contains(m.fired, tell([]api.Match{match})[0])
	})
	if len(waiting) == 0 {
		return ""
	}
	told := tell([]api.Match{slices.MinFunc(waiting, turn)})[0]
	m.fired = append(m.fired, told)
	return told
}

// someCall makes a call on the net, and wants of it what the model answers.
func (m *model) someCall(t *testing.T, r *rand.Rand, net *sieve.Net) {
	t.Helper()
	switch what := r.IntN(10); {
	case what < 4 && len(m.ids) < 8:
		f := someFact(r)
		m.add(f)
		wantAdd(t, net, f, m.given, api.OK)
	case what < 7 && len(m.ids) > 0:
		at := r.IntN(len(m.ids))
		wantRemove(t, net, m.ids[at], api.OK)
		m.remove(at)
	default:
		wantFire(t, net, m.fire())
	}
}

// P6, P7, P9: after each call, the net holds, knows and fires what a search of all facts finds.
func TestP9AgainstSearch(t *testing.T) {
	r := rand.New(rand.NewPCG(3, 4))
	for range 8000 {
		m := &model{rules: someRules(r)}
		text := textOf(m.rules)
		net := newNet(t, text)
		for range 40 {
			m.someCall(t, r, net)
			if got, want := tell(net.Matches()), tell(m.matches(m.rules)); !slices.Equal(got, want) {
				t.Errorf("Matches = %v, want %v", got, want)
			}
			wantHolding(t, net, m.holding)
			if t.Failed() {
				t.Fatalf("%s with %v, %v", text, m.ids, m.facts)
			}
		}
	}
}
