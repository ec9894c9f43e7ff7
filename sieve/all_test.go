package sieve_test

import (
	"iter"
	"math/rand/v2"
	"slices"
	"strings"
	"testing"

	"sieve/api"
	"sieve/sieve"
)

// wantAll: these are given, one behind the other.
func wantAll(t *testing.T, seq iter.Seq[api.Match], want ...string) {
	t.Helper()
	if got := tell(slices.Collect(seq)); !slices.Equal(got, want) {
		t.Errorf("All gives %v, want %v", got, want)
	}
}

// pairs has four matches of its first rule, and two of its last; between them a rule has none.
func pairs(t *testing.T) *sieve.Net {
	t.Helper()
	net := newNet(t, "a:(1 x)(1 y);b:(3);c:(1 x)!(2 x);")
	addAll(t, net, fact(1, 5), fact(1, 6))
	return net
}

func ofPairs() []string { return []string{"0[1 1]", "0[1 2]", "0[2 1]", "0[2 2]", "2[1]", "2[2]"} }

// P8: the document's example, each time by an iterator of its own.
func TestP8Example(t *testing.T) {
	net := newNet(t, "p:(1 x y)(2 y);q:(1 x x)!(2 x);")
	wantAll(t, net.All())
	addAll(t, net, fact(1, 5, 6), fact(2, 6))
	wantAll(t, net.All(), "0[1 2]")
	addAll(t, net, fact(1, 7, 7))
	wantAll(t, net.All(), "0[1 2]", "1[3]")
	addAll(t, net, fact(2, 7))
	wantAll(t, net.All(), "0[1 2]", "0[3 4]")
	removeAll(t, net, 4)
	wantAll(t, net.All(), "0[1 2]", "1[3]")
}

// P8: without rules, without facts, and where none matches, there is an iterator that gives nothing.
func TestP8Nothing(t *testing.T) {
	for _, text := range []string{"", "a:(1);", "a:(2)!(2);", strings.Repeat("a:(1)(2);", 8)} {
		net := newNet(t, text)
		wantAll(t, net.All())
		addAll(t, net, fact(2))
		wantAll(t, net.All())
		removeAll(t, net, 1)
		wantAll(t, net.All())
	}
}

// P8: it gives what matches when it is begun, not when All was called.
func TestP8BegunLater(t *testing.T) {
	net := newNet(t, "a:(1 x)!(2 x);")
	seq := net.All()
	wantAll(t, seq)
	addAll(t, net, fact(1, 5), fact(1, 6))
	wantAll(t, seq, "0[1]", "0[2]")
	addAll(t, net, fact(2, 5))
	wantAll(t, seq, "0[2]")
	removeAll(t, net, 2)
	wantAll(t, seq)
	removeAll(t, net, 3)
	wantAll(t, seq, "0[1]")
	wantAll(t, seq, "0[1]")
}

// P8: left at each place, also behind the last; then it gives no more, and can be gone through again.
func TestP8LeftEarly(t *testing.T) {
	net := pairs(t)
	seq := net.All()
	want := ofPairs()
	for taken := 1; taken <= len(want); taken++ {
		var got []api.Match
		seq(func(m api.Match) bool {
			got = append(got, m)
			return len(got) != taken
		})
		if told := tell(got); !slices.Equal(told, want[:taken]) {
			t.Errorf("left behind %d: %v, want %v", taken, told, want[:taken])
		}
		wantAll(t, seq, want...)
	}
	for m := range seq {
		if m.Rule == 2 {
			break
		}
		want = want[1:]
	}
	if len(want) != 2 {
		t.Errorf("%d are left, want 2", len(want))
	}
	wantAll(t, net.All(), ofPairs()...)
}

// P8: calls on the net while it is gone through, at each place, change what matches but not what it gives.
func TestP8CallsMeanwhile(t *testing.T) {
	for _, c := range []struct {
		what   string
		call   func(t *testing.T, net *sieve.Net)
		behind []string // what matches then
	}{
		{"Add, of what is joined",
			func(t *testing.T, net *sieve.Net) { addAll(t, net, fact(3)) },
			[]string{"0[1 1]", "0[1 2]", "0[2 1]", "0[2 2]", "1[3]", "2[1]", "2[2]"}},
		{"Add, of what holds back",
			func(t *testing.T, net *sieve.Net) { addAll(t, net, fact(2, 6)) },
			[]string{"0[1 1]", "0[1 2]", "0[2 1]", "0[2 2]", "2[1]"}},
		{"Add, refused",
			func(t *testing.T, net *sieve.Net) { wantAdd(t, net, fact(10), 0, api.ErrFact) }, ofPairs()},
		{"Remove",
			func(t *testing.T, net *sieve.Net) { removeAll(t, net, 1) }, []string{"0[2 2]", "2[2]"}},
		{"Remove, of all",
			func(t *testing.T, net *sieve.Net) { removeAll(t, net, 2, 1) }, nil},
		{"Remove, and a fact like it",
			func(t *testing.T, net *sieve.Net) { removeAll(t, net, 1); addAll(t, net, fact(1, 5)) },
			[]string{"0[2 2]", "0[2 3]", "0[3 2]", "0[3 3]", "2[2]", "2[3]"}},
		{"Remove, refused",
			func(t *testing.T, net *sieve.Net) { wantRemove(t, net, 3, api.ErrNone) }, ofPairs()},
		{"Fire",
			func(t *testing.T, net *sieve.Net) {
				wantFires(t, net, "0[2 2]", "0[1 2]", "0[2 1]", "2[2]", "0[1 1]", "2[1]")
			}, ofPairs()},
		{"Matches and All",
			func(t *testing.T, net *sieve.Net) {
				wantMatches(t, net, ofPairs()...)
				wantAll(t, net.All(), ofPairs()...)
			}, ofPairs()},
	} {
		for place := range ofPairs() {
			net := pairs(t)
			seq := net.All()
			var got []api.Match
			for m := range seq {
				if len(got) == place {
					c.call(t, net)
				}
				got = append(got, m)
			}
			if told := tell(got); !slices.Equal(told, ofPairs()) {
				t.Errorf("%s, at place %d: All gives %v, want %v", c.what, place, told, ofPairs())
			}
			wantMatches(t, net, c.behind...)
			wantAll(t, seq, c.behind...)
		}
	}
}

// P8: one that is begun within another, of the same iterator too, gives what matches at its own beginning.
func TestP8OneWithinAnother(t *testing.T) {
	net := newNet(t, "a:(1);")
	addAll(t, net, fact(1), fact(1), fact(1))
	seq := net.All()
	var outer, inner []string
	for m := range seq {
		outer = append(outer, tell([]api.Match{m})...)
		for m := range seq {
			inner = append(inner, tell([]api.Match{m})...)
			wantRemove(t, net, m.Facts[0], api.OK)
			break
		}
	}
	if want := []string{"0[1]", "0[2]", "0[3]"}; !slices.Equal(outer, want) || !slices.Equal(inner, want) {
		t.Errorf("outside %v, inside %v, want %v", outer, inner, want)
	}
	wantAll(t, seq)
}

// P8: pulled one by one, it is begun with the first, and two may be on their way at once.
func TestP8Pulled(t *testing.T) {
	net := newNet(t, "a:(1);")
	seq := net.All()
	next, stop := iter.Pull(seq)
	defer stop()
	later, stopLater := iter.Pull(seq)
	defer stopLater()
	addAll(t, net, fact(1), fact(1))
	wantNext(t, next, "0[1]")
	removeAll(t, net, 1)
	addAll(t, net, fact(1))
	wantNext(t, later, "0[2]")
	removeAll(t, net, 2, 3)
	wantNext(t, next, "0[2]")
	wantNext(t, later, "0[3]")
	wantNext(t, next, "")
	wantNext(t, later, "")
	addAll(t, net, fact(1))
	wantNext(t, next, "")

	left, stopLeft := iter.Pull(seq)
	wantNext(t, left, "0[4]")
	stopLeft()
	wantNext(t, left, "")
	wantAll(t, seq, "0[4]")
}

// wantNext: this is given next; if it is empty, nothing is.
func wantNext(t *testing.T, next func() (api.Match, bool), want string) {
	t.Helper()
	got := ""
	if m, given := next(); given {
		got = tell([]api.Match{m})[0]
	}
	if got != want {
		t.Errorf("next = %q, want %q", got, want)
	}
}

// P8, P2: each match is new memory, its spare room too, in each way through.
func TestP8NewMemory(t *testing.T) {
	net := triples(t)
	seq, other := net.All(), net.All()
	want := tell(net.Matches())
	var lists [][]int
	for _, s := range []iter.Seq[api.Match]{seq, seq, other, slices.Values(net.Matches())} {
		for m := range s {
			lists = append(lists, m.Facts)
		}
	}
	wantApart(t, lists)
	wantAll(t, seq, want...)
	wantMatches(t, net, want...)

	at := 0
	for m := range seq { // and what is written over one shows in none that follows
		if got := tell([]api.Match{m})[0]; got != want[at] {
			t.Errorf("All gives %s, want %s", got, want[at])
		}
		wantApart(t, [][]int{m.Facts})
		at++
	}
	wantAll(t, seq, want...)
	wantFires(t, net, fireAll(triples(t))...)
}

// triples is of lists of three, which grow by appending to have spare room.
func triples(t *testing.T) *sieve.Net {
	t.Helper()
	net := newNet(t, "a:(1)(1)(1);b:(1)!(2);")
	addAll(t, net, fact(1), fact(1))
	return net
}

// P8, P2: going through changes nothing: what has fired has, what has not has not, and no number is given.
func TestP8ChangesNothing(t *testing.T) {
	net := newNet(t, "a:(1);")
	addAll(t, net, fact(1), fact(1), fact(1))
	wantFire(t, net, "0[3]")
	wantAll(t, net.All(), "0[1]", "0[2]", "0[3]")
	wantFires(t, net, "0[2]", "0[1]")
	wantAll(t, net.All(), "0[1]", "0[2]", "0[3]")
	wantFires(t, net)
	wantFacts(t, net, fact(1), fact(1), fact(1))
	wantAdd(t, net, fact(2), 4, api.OK)
}

// P8, P2: an iterator gives what its own net knows.
func TestP8NetsKeepApart(t *testing.T) {
	one, other := newNet(t, "a:(1);"), newNet(t, "a:(1);")
	first, second := one.All(), other.All()
	addAll(t, one, fact(1))
	wantAll(t, second)
	addAll(t, other, fact(2), fact(1))
	wantAll(t, first, "0[1]")
	wantAll(t, second, "0[2]")
}

// P1, P8: the most matches that there can be, while the facts go.
func TestP1AllMostMatches(t *testing.T) {
	net := netOfMostMatches(t)
	want := net.Matches()
	given := 0
	for m := range net.All() {
		if given < api.MaxFacts {
			removeAll(t, net, given+1)
		}
		if m.Rule != want[given].Rule || !slices.Equal(m.Facts, want[given].Facts) {
			t.Fatalf("at place %d stands %v, want %v", given, m, want[given])
		}
		given++
	}
	if given != len(want) || given != 8*16*16*16*16 {
		t.Errorf("All gives %d matches, Matches %d", given, len(want))
	}
	wantAll(t, net.All())
}

// P8: whatever is called meanwhile, it gives what a search of all facts found when it was begun.
func TestP8AgainstSearch(t *testing.T) {
	r := rand.New(rand.NewPCG(5, 6))
	for range 3000 {
		m := &model{rules: someRules(r)}
		net := newNet(t, textOf(m.rules))
		seq := net.All()
		for range 10 {
			m.someCall(t, r, net)
			goThrough(t, r, net, m, seq)
			if t.Failed() {
				t.Fatalf("%s with %v, %v", textOf(m.rules), m.ids, m.facts)
			}
		}
	}
}

// goThrough leaves early now and then, and makes calls on its way.
func goThrough(t *testing.T, r *rand.Rand, net *sieve.Net, m *model, seq iter.Seq[api.Match]) {
	t.Helper()
	want := tell(m.matches(m.rules))
	leave := r.IntN(2 * (len(want) + 1))
	var got []api.Match
	for match := range seq {
		if len(got) == leave {
			break
		}
		got = append(got, match)
		if r.IntN(4) == 0 {
			m.someCall(t, r, net)
		}
	}
	if told := tell(got); !slices.Equal(told, want[:min(leave, len(want))]) {
		t.Errorf("All, left behind %d, gives %v of %v", leave, told, want)
	}
}
