package sieve_test

import (
	"math"
	"slices"
	"strings"
	"testing"

	"sieve/api"
	"sieve/sieve"
)

func wantRemove(t *testing.T, net *sieve.Net, id int, want api.Errno) {
	t.Helper()
	if errno := net.Remove(id); errno != want {
		t.Errorf("Remove(%d) = %d, want %d", id, errno, want)
	}
}

func removeAll(t *testing.T, net *sieve.Net, ids ...int) {
	t.Helper()
	for _, id := range ids {
		wantRemove(t, net, id, api.OK)
	}
}

// P6: a fact goes by its number, whatever others are like it.
func TestP6Remove(t *testing.T) {
	five, six := fact(1, 5), fact(2, 6, 6)
	net := newNet(t, "a:(1 x);")
	addAll(t, net, five, five, six, five, fact(3))
	removeAll(t, net, 3)
	wantHolding(t, net, holding{[]int{1, 2, 4, 5}, []api.Fact{five, five, five, fact(3)}})
	removeAll(t, net, 1)
	wantHolding(t, net, holding{[]int{2, 4, 5}, []api.Fact{five, five, fact(3)}})
	wantMatches(t, net, "0[2]", "0[4]")
	removeAll(t, net, 5)
	wantHolding(t, net, holding{[]int{2, 4}, []api.Fact{five, five}})
	removeAll(t, net, 2, 4)
	wantFacts(t, net)
	wantMatches(t, net)
}

// P6: no such fact; P1: nothing is changed by it.
func TestP6RemoveNone(t *testing.T) {
	net := newNet(t, "a:(1 x)!(2 x);")
	never := []int{0, -1, math.MinInt, math.MaxInt, 5, 6, 17}
	for _, id := range append(never, 1, 2, 3, 4) {
		wantRemove(t, net, id, api.ErrNone)
	}
	addAll(t, net, fact(1, 5), fact(1, 6), fact(2, 6), fact(1, 7))
	wantFire(t, net, "0[4]")
	removeAll(t, net, 2)
	for _, id := range append(never, 2) {
		wantRemove(t, net, id, api.ErrNone)
		wantHolding(t, net, holding{[]int{1, 3, 4}, []api.Fact{fact(1, 5), fact(2, 6), fact(1, 7)}})
		wantMatches(t, net, "0[1]", "0[4]")
	}
	wantFire(t, net, "0[1]")
	wantFire(t, net, "")
	wantAdd(t, net, fact(1), 5, api.OK)
}

// P6: a number that was given is not given again, the greatest neither.
func TestP6NumbersGoOn(t *testing.T) {
	net := newNet(t, "a:(1);")
	for id := 1; id <= 100; id++ {
		wantAdd(t, net, fact(1), id, api.OK)
		wantMatches(t, net, tell([]api.Match{{Facts: []int{id}}})...)
		removeAll(t, net, id)
		wantRemove(t, net, id, api.ErrNone)
		wantMatches(t, net)
	}
	addAll(t, net, fact(1), fact(1))
	removeAll(t, net, 101)
	wantAdd(t, net, fact(1), 103, api.OK)
	wantHolding(t, net, holding{[]int{102, 103}, []api.Fact{fact(1), fact(1)}})
}

// P6: MaxFacts is how many are there, not how many have come.
func TestP6RemoveMakesRoom(t *testing.T) {
	net := newNet(t, "a:(1);")
	for range api.MaxFacts {
		addAll(t, net, fact(1))
	}
	wantAdd(t, net, fact(1), 0, api.ErrFull)
	removeAll(t, net, 7, 16)
	wantAdd(t, net, fact(1), 17, api.OK)
	wantAdd(t, net, fact(1), 18, api.OK)
	wantAdd(t, net, fact(1), 0, api.ErrFull)
	wantRemove(t, net, 7, api.ErrNone)
	wantAdd(t, net, fact(1), 0, api.ErrFull)
	removeAll(t, net, 18)
	wantAdd(t, net, fact(1), 19, api.OK)
}

// P6, P7: what matches when facts have gone.
func TestP7AfterRemove(t *testing.T) {
	for _, c := range []struct {
		text  string
		facts []api.Fact
		gone  []int
		want  string
	}{
		{"a:(1);", []api.Fact{fact(1), fact(1)}, []int{1}, "0[2]"},
		{"a:(1)(1);", []api.Fact{fact(1), fact(1), fact(1)}, []int{2}, "0[1 1] 0[1 3] 0[3 1] 0[3 3]"},
		{"a:(1 x)(2 x)(3 x);", []api.Fact{fact(1, 5), fact(2, 5), fact(3, 5)}, []int{1}, ""},
		{"a:(1 x)(2 x)(3 x);", []api.Fact{fact(1, 5), fact(2, 5), fact(3, 5)}, []int{2}, ""},
		{"a:(1 x)(2 x)(3 x);", []api.Fact{fact(1, 5), fact(2, 5), fact(3, 5)}, []int{3}, ""},
		{"a:(1)(2);b:(2);", []api.Fact{fact(1), fact(2)}, []int{1}, "1[2]"},
		// what a fact that is gone held back
		{"a:(1)!(2);", []api.Fact{fact(1), fact(2)}, []int{2}, "0[1]"},
		{"a:(1)!(2);", []api.Fact{fact(2), fact(1)}, []int{1}, "0[2]"},
		{"a:(1)!(2);", []api.Fact{fact(1), fact(2), fact(2)}, []int{2}, ""},
		{"a:(1)!(2);", []api.Fact{fact(1), fact(2), fact(2)}, []int{2, 3}, "0[1]"},
		{"a:(1)!(2);", []api.Fact{fact(1), fact(2)}, []int{1, 2}, ""},
		{"a:(1 x)!(2 x);", []api.Fact{fact(1, 5), fact(1, 6), fact(2, 5), fact(2, 6)}, []int{3}, "0[1]"},
		{"a:(1 x)!(2 _)!(2 x);", []api.Fact{fact(1, 5), fact(2, 5)}, []int{2}, "0[1]"},
		{"a:(1 x)!(2 _)!(2 x);", []api.Fact{fact(1, 5), fact(2, 5), fact(2, 6)}, []int{2}, ""},
		{"a:(1)!(2)!(3);", []api.Fact{fact(1), fact(2), fact(3)}, []int{2}, ""},
		{"a:(1)!(2)!(3);", []api.Fact{fact(1), fact(2), fact(3)}, []int{3}, ""},
		{"a:(1)!(2)!(3);", []api.Fact{fact(1), fact(2), fact(3)}, []int{2, 3}, "0[1]"},
		// what comes behind it finds the facts that are left
		{"a:(1)!(2)(3);", []api.Fact{fact(1), fact(2), fact(3), fact(3)}, []int{2, 3}, "0[1 4]"},
		{"a:(1)!(2)(3);", []api.Fact{fact(1), fact(2), fact(3), fact(3)}, []int{3, 2}, "0[1 4]"},
		{"a:(1 x)!(2 x)(2 y);", []api.Fact{fact(1, 5), fact(2, 5), fact(2, 6)}, []int{2}, "0[1 3]"},
		{"a:(1)!(2)(2);", []api.Fact{fact(1), fact(2)}, []int{2}, ""},
		{"a:(1 x)!(2 x)(2 y)(2 _);", []api.Fact{fact(1, 5), fact(2, 5), fact(2, 6)}, []int{2}, "0[1 3 3]"},
		// one fact that meets a condition and stands against another
		{"a:(1 _)!(1 x);", []api.Fact{fact(1, 5)}, []int{1}, ""},
		{"a:(1 x y)!(1 y x);", []api.Fact{fact(1, 5, 6), fact(1, 6, 5)}, []int{1}, "0[2]"},
		{"a:(1 _)(2)!(1 5);", []api.Fact{fact(1, 5), fact(1, 6), fact(2)}, []int{1}, "0[2 3]"},
	} {
		net := newNet(t, c.text)
		addAll(t, net, c.facts...)
		removeAll(t, net, c.gone...)
		for range 2 {
			if got := strings.Join(tell(net.Matches()), " "); got != c.want {
				t.Errorf("%s with %v without %v: Matches = %s, want %s", c.text, c.facts, c.gone, got, c.want)
			}
		}
	}
}

// P2: what was answered stays as it is when facts go, and another net does too.
func TestP2RemoveChangesNoAnswer(t *testing.T) {
	net, other := newNet(t, "a:(1 x);"), newNet(t, "a:(1 x);")
	facts := []api.Fact{fact(1, 5), fact(1, 6), fact(1, 7)}
	addAll(t, net, facts...)
	addAll(t, other, facts...)
	ids, told := net.Facts()
	matches := net.Matches()
	removeAll(t, net, 1, 2)
	if !slices.Equal(ids, []int{1, 2, 3}) || len(told) != 3 {
		t.Errorf("what was answered has become %v, %v", ids, told)
	}
	for i, f := range told {
		if f.Kind != 1 || !slices.Equal(f.Values, facts[i].Values) {
			t.Errorf("fact %d that was answered has become %v", i+1, f)
		}
	}
	if got := tell(matches); !slices.Equal(got, []string{"0[1]", "0[2]", "0[3]"}) {
		t.Errorf("the matches that were answered have become %v", got)
	}
	wantFacts(t, other, facts...)
	wantMatches(t, other, "0[1]", "0[2]", "0[3]")
}

// P1: the most matches that one fact can take with it, and the most that it can let come to be.
func TestP1RemoveFromMostMatches(t *testing.T) {
	net := netOfMostMatches(t)
	for left := api.MaxFacts - 1; left >= 0; left-- {
		removeAll(t, net, api.MaxFacts-left)
		if got, want := len(net.Matches()), 8*left*left*left*left; got != want {
			t.Fatalf("of %d facts there are %d matches, want %d", left, got, want)
		}
	}

	net = newNet(t, strings.Repeat("a:(1)!(2)(1)(1);", 8))
	for range api.MaxFacts - 1 {
		addAll(t, net, fact(1))
	}
	for range 2 {
		addAll(t, net, fact(2))
		wantMatches(t, net)
		ids, _ := net.Facts()
		removeAll(t, net, ids[len(ids)-1])
		if got := len(net.Matches()); got != 8*15*15*15 {
			t.Errorf("there are %d matches, want %d", got, 8*15*15*15)
		}
	}
}
