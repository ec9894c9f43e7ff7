package sieve_test

import (
	"math"
	"slices"
	"strings"
	"testing"
	"unsafe"

	"sieve/api"
	"sieve/sieve"
)

func newNet(t *testing.T, text string) *sieve.Net {
	t.Helper()
	net, errno := sieve.New(text)
	if net == nil || errno != api.OK {
		t.Fatalf("New(%q) = %v, %d, want a net, OK", text, net, errno)
	}
	return net
}

func fact(kind int, values ...int) api.Fact { return api.Fact{Kind: kind, Values: values} }

func wantAdd(t *testing.T, net *sieve.Net, f api.Fact, id int, want api.Errno) {
	t.Helper()
	if got, errno := net.Add(f); got != id || errno != want {
		t.Errorf("Add(kind %d, %d values) = %d, %d, want %d, %d", f.Kind, len(f.Values), got, errno, id, want)
	}
}

// wantFacts: these are all, their numbers from 1 on.
func wantFacts(t *testing.T, net *sieve.Net, want ...api.Fact) {
	t.Helper()
	there := holding{facts: want}
	for i := range want {
		there.ids = append(there.ids, i+1)
	}
	wantHolding(t, net, there)
}

// wantHolding: these are all, by these numbers.
func wantHolding(t *testing.T, net *sieve.Net, want holding) {
	t.Helper()
	ids, facts := net.Facts()
	if !slices.Equal(ids, want.ids) || len(facts) != len(want.facts) {
		t.Errorf("Facts = %v, %v, want %v, %v", ids, facts, want.ids, want.facts)
		return
	}
	for i, f := range facts {
		if f.Kind != want.facts[i].Kind || !slices.Equal(f.Values, want.facts[i].Values) {
			t.Errorf("Facts: at %d stands %d, %v, want %v", i, ids[i], f, want.facts[i])
		}
	}
}

// P5: a net has no facts at first, and no matches.
func TestP5NewIsEmpty(t *testing.T) {
	for _, text := range samples() {
		net := newNet(t, text)
		wantFacts(t, net)
		wantMatches(t, net)
	}
}

// P5: New refuses what Plain refuses, with the same error and no net.
func TestP5RefusesAsPlainDoes(t *testing.T) {
	texts := []string{"!", "a", "a:!(1);", "a:(12);", strings.Repeat(" ", 401), strings.Repeat("!", 401), strings.Repeat("a:(1);", 9),
		"a:(1)(2)(3)(4)(5);", "a:(1 a b c d e);", "a:(1 a b c d e)x", strings.Repeat("a:(1);", 9) + "!", "a:(1);\x00"}
	for _, text := range texts {
		_, _, want := sieve.Plain(text)
		if net, errno := sieve.New(text); net != nil || errno != want || errno == api.OK {
			t.Errorf("New(%.60q) = %v, %d, want nil, %d", text, net, errno, want)
		}
	}
	for _, text := range samples() {
		for at := range len(text) {
			_, _, want := sieve.Plain(text[:at])
			if net, errno := sieve.New(text[:at]); errno != want || (net == nil) != (want != api.OK) {
				t.Errorf("New(%q) = %v, %d, want %d", text[:at], net, errno, want)
			}
		}
	}
}

// P5: each bound can be used up.
func TestP5WithinBounds(t *testing.T) {
	newNet(t, strings.Repeat(" ", 400))
	newNet(t, strings.Repeat("a:(1);", 8))
	newNet(t, "a:(1 a b c d)(2 a b c d)(3 a b c d)!(4 a b c d);")
}

// P6: facts get the numbers from 1 on, and are told in their order.
func TestP6AddAndFacts(t *testing.T) {
	net := newNet(t, "a:(1);")
	added := []api.Fact{
		fact(0), fact(9), fact(1, 0), fact(1, 0), fact(5, 1, 2, 3, 4),
		fact(2, -api.MaxNumber, api.MaxNumber), {Kind: 3, Values: []int{}},
	}
	for i, f := range added {
		wantAdd(t, net, f, i+1, api.OK)
		wantFacts(t, net, added[:i+1]...)
	}
}

// P6: what is no fact; P1: nothing is changed by it, not even the next number.
func TestP6NoFact(t *testing.T) {
	net := newNet(t, "a:(1);b:(1 x);")
	wantAdd(t, net, fact(1), 1, api.OK)
	for _, f := range []api.Fact{
		fact(-1), fact(10), fact(math.MinInt), fact(math.MaxInt), fact('1'),
		fact(1, 1, 2, 3, 4, 5), fact(1, make([]int, 1<<20)...),
		fact(1, api.MaxNumber+1), fact(1, -api.MaxNumber-1), fact(1, math.MinInt), fact(1, math.MaxInt),
		fact(1, 0, 0, 0, api.MaxNumber+1), fact(1, 0, -api.MaxNumber-1, 0), fact(10, math.MaxInt, 0, 0, 0, 0),
	} {
		wantAdd(t, net, f, 0, api.ErrFact)
		wantFacts(t, net, fact(1))
		wantMatches(t, net, "0[1]")
	}
	wantAdd(t, net, fact(1, 7), 2, api.OK)
	wantMatches(t, net, "0[1]", "1[2]")
}

// P6: MaxFacts and no more; P1: of two errors ErrFact is told, and neither changes anything.
func TestP6Full(t *testing.T) {
	net := newNet(t, "a:(1 16);b:(2);")
	var added []api.Fact
	for i := 1; i <= api.MaxFacts; i++ {
		added = append(added, fact(1, i))
		wantAdd(t, net, fact(1, i), i, api.OK)
	}
	for range 3 {
		wantAdd(t, net, fact(2), 0, api.ErrFull)
		wantAdd(t, net, fact(-1), 0, api.ErrFact)
		wantAdd(t, net, fact(2, api.MaxNumber+1), 0, api.ErrFact)
		wantFacts(t, net, added...)
		wantMatches(t, net, "0[16]")
	}
}

// P2: the list of a fact that is added stays the caller's, its spare room too.
func TestP2AddKeepsAndChangesNothing(t *testing.T) {
	net := newNet(t, "a:(1 x y);b:(2);c:(1 5 6)(3 5);")
	room := []int{5, 6, 77, 78}
	wantAdd(t, net, fact(1, room[:2]...), 1, api.OK)
	wantAdd(t, net, fact(2, room[:0]...), 2, api.OK)
	wantAdd(t, net, fact(1, room...), 3, api.OK)
	if !slices.Equal(room, []int{5, 6, 77, 78}) {
		t.Errorf("Add has changed what it was given to %v", room)
	}
	clear(room)
	wantFacts(t, net, fact(1, 5, 6), fact(2), fact(1, 5, 6, 77, 78))
	wantAdd(t, net, fact(3, 5), 4, api.OK)
	wantMatches(t, net, "0[1]", "1[2]", "2[1 4]")
}

// P2: the text of a net may change behind it.
func TestP2NewKeepsNoText(t *testing.T) {
	room := []byte("a:(1 x)!(2 x);spare")
	net := newNet(t, unsafe.String(&room[0], 14))
	if string(room) != "a:(1 x)!(2 x);spare" {
		t.Errorf("New has changed its text to %q", room)
	}
	for i := range room {
		room[i] = '9'
	}
	wantAdd(t, net, fact(1, 5), 1, api.OK)
	wantAdd(t, net, fact(1, 6), 2, api.OK)
	wantAdd(t, net, fact(2, 6), 3, api.OK)
	wantMatches(t, net, "0[1]")
}

// P2: what Facts answers is the caller's, and no two lists of it share room.
func TestP2FactsAnswersNewMemory(t *testing.T) {
	net := newNet(t, "a:(1 x);")
	want := []api.Fact{fact(1, 5), fact(2), fact(1, 6, 7, 8), fact(1, 1, 2, 3, 4)}
	for i, f := range want {
		wantAdd(t, net, f, i+1, api.OK)
	}
	for range 2 {
		ids, facts := net.Facts()
		lists := [][]int{ids}
		for _, f := range facts {
			lists = append(lists, f.Values)
		}
		wantApart(t, lists)
		clear(facts[:cap(facts)])
		wantFacts(t, net, want...)
		wantMatches(t, net, "0[1]")
	}
}

// wantApart writes all over each list and its spare room, and looks whether another shows it.
func wantApart(t *testing.T, lists [][]int) {
	t.Helper()
	for i, l := range lists {
		for at := range l[:cap(l)] {
			l[:cap(l)][at] = -i
		}
	}
	for i, l := range lists {
		for _, v := range l[:cap(l)] {
			if v != -i {
				t.Fatalf("list %d shares room with list %d", i, -v)
			}
		}
	}
}
