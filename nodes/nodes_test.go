package nodes

import (
	"reflect"
	"testing"

	"sieve/api"
	"sieve/rules"
)

func netOf(t *testing.T, text string) *Net {
	t.Helper()
	list, err := rules.Parse(text)
	if err != nil {
		t.Fatal(err)
	}
	return New(list)
}

func fact(id, kind int, values ...int) *Fact {
	return &Fact{Fact: api.Fact{Kind: kind, Values: values}, ID: id}
}

// arrived tells how many tokens each node of a chain remembers, from the first
// condition to the last node, and how many facts those of conditions remember.
func arrived(c *chain) (tokens, facts []int) {
	for i := len(c.nodes) - 1; i >= 0; i-- {
		switch n := c.nodes[i].(type) {
		case *join:
			tokens, facts = append(tokens, len(n.tokens)), append(facts, len(n.facts))
		case *holdBack:
			tokens, facts = append(tokens, len(n.tokens)), append(facts, len(n.facts))
		}
	}
	return append(tokens, len(c.end.tokens)), facts
}

func wantArrived(t *testing.T, n *Net, tokens, facts []int) {
	t.Helper()
	gotTokens, gotFacts := arrived(n.chains[0])
	if !reflect.DeepEqual(gotTokens, tokens) || !reflect.DeepEqual(gotFacts, facts) {
		t.Errorf("tokens %v, facts %v, want %v, %v", gotTokens, gotFacts, tokens, facts)
	}
}

func TestEachConditionHasANodeOfItsSort(t *testing.T) {
	c := netOf(t, "a:(1)!(2)(3);").chains[0]
	if len(c.nodes) != 3 {
		t.Fatalf("there are %d nodes", len(c.nodes))
	}
	_, hindmost := c.nodes[0].(*join)
	_, middle := c.nodes[1].(*holdBack)
	_, foremost := c.nodes[2].(*join)
	if !hindmost || !middle || !foremost {
		t.Errorf("the nodes are %T, %T, %T", c.nodes[2], c.nodes[1], c.nodes[0])
	}
}

// What matched ahead stays known, so a new fact is held against that alone.
func TestNodesRememberWhatArrived(t *testing.T) {
	n := netOf(t, "a:(1 x)(2 x y)!(3 y)(4 y);")
	wantArrived(t, n, []int{1, 0, 0, 0, 0}, []int{0, 0, 0, 0})
	n.Add(fact(1, 4, 6))
	wantArrived(t, n, []int{1, 0, 0, 0, 0}, []int{0, 0, 0, 1})
	n.Add(fact(2, 2, 5, 6))
	wantArrived(t, n, []int{1, 0, 0, 0, 0}, []int{0, 1, 0, 1})
	n.Add(fact(3, 1, 5))
	wantArrived(t, n, []int{1, 1, 1, 1, 1}, []int{1, 1, 0, 1})
	n.Add(fact(4, 2, 5, 7))
	wantArrived(t, n, []int{1, 1, 2, 2, 1}, []int{1, 2, 0, 1})
	n.Add(fact(5, 3, 6))
	wantArrived(t, n, []int{1, 1, 2, 1, 0}, []int{1, 2, 1, 1})
}

func TestFactThatFitsNowhereChangesNothing(t *testing.T) {
	n := netOf(t, "a:(1 x x)(2 5);")
	for _, f := range []*Fact{fact(1, 1, 5, 6), fact(2, 1, 5), fact(3, 2, 6), fact(4, 2), fact(5, 3, 5)} {
		n.Add(f)
		wantArrived(t, n, []int{1, 0, 0}, []int{0, 0})
	}
}

// A fact that stands for several conditions is told to each node once.
func TestNoMatchIsFoundTwice(t *testing.T) {
	n := netOf(t, "a:(1)(1)(1)(1);")
	n.Add(fact(1, 1))
	wantArrived(t, n, []int{1, 1, 1, 1, 1}, []int{1, 1, 1, 1})
	n.Add(fact(2, 1))
	wantArrived(t, n, []int{1, 2, 4, 8, 16}, []int{2, 2, 2, 2})
}

// What a fact brought goes with it, at each node, and what it held back goes on.
func TestNodesForgetWhatIsGone(t *testing.T) {
	n := netOf(t, "a:(1 x)(2 x y)!(3 y)(4 y);")
	facts := []*Fact{fact(1, 4, 6), fact(2, 2, 5, 6), fact(3, 1, 5), fact(4, 2, 5, 7), fact(5, 3, 6)}
	for _, f := range facts {
		n.Add(f)
	}
	n.Remove(facts[4])
	wantArrived(t, n, []int{1, 1, 2, 2, 1}, []int{1, 2, 0, 1})
	n.Remove(facts[3])
	wantArrived(t, n, []int{1, 1, 1, 1, 1}, []int{1, 1, 0, 1})
	n.Remove(facts[1])
	wantArrived(t, n, []int{1, 1, 0, 0, 0}, []int{1, 0, 0, 1})
	n.Remove(facts[2])
	wantArrived(t, n, []int{1, 0, 0, 0, 0}, []int{0, 0, 0, 1})
	n.Remove(facts[0])
	wantArrived(t, n, []int{1, 0, 0, 0, 0}, []int{0, 0, 0, 0})
}

// A fact that goes while it stands both for a condition and against one leaves nothing behind.
func TestFactOfSeveralNodesGoesFromAll(t *testing.T) {
	for _, text := range []string{"a:(1)!(1)(1);", "a:(1)(1)!(1)!(1);", "a:(2)!(1)(1)(1);", "a:(2)(1)!(1)(2);"} {
		n := netOf(t, text)
		other, f := fact(1, 2), fact(2, 1)
		n.Add(other)
		before, known := arrived(n.chains[0])
		n.Add(f)
		n.Remove(f)
		wantArrived(t, n, before, known)
	}
}

// What fires waits no longer, but is remembered as a match.
func TestAgendaHoldsWhatHasNotFired(t *testing.T) {
	n := netOf(t, "a:(1)(1);")
	one, two := fact(1, 1), fact(2, 1)
	n.Add(one)
	n.Add(two)
	end := n.chains[0].end
	for left := 3; left >= 0; left-- {
		if _, found := n.Fire(); !found {
			t.Fatal("nothing fires")
		}
		if len(end.waiting.tokens) != left || len(end.tokens) != 4 {
			t.Errorf("%d wait, %d match, want %d, 4", len(end.waiting.tokens), len(end.tokens), left)
		}
	}
	if m, found := n.Fire(); found || m.Rule != 0 || m.Facts != nil {
		t.Errorf("Fire = %v, %t", m, found)
	}
	n.Remove(two)
	if len(end.waiting.tokens) != 0 || len(end.tokens) != 1 {
		t.Errorf("%d wait, %d match, want 0, 1", len(end.waiting.tokens), len(end.tokens))
	}
}

func TestNoRulesNoMatches(t *testing.T) {
	n := New(nil)
	n.Add(fact(1, 1))
	if got := n.Matches(); len(got) != 0 {
		t.Errorf("Matches = %v", got)
	}
	if m, found := n.Fire(); found {
		t.Errorf("Fire = %v", m)
	}
}

// A match is made when its turn comes, so who leaves early does not pay for the rest.
func TestLeavingEarlySparesTheRest(t *testing.T) {
	n := netOf(t, "a:(1)(1)(1);")
	for id := 1; id <= 10; id++ {
		n.Add(fact(id, 1))
	}
	all := n.All()
	made := testing.AllocsPerRun(10, func() {
		for range all {
			break
		}
	})
	if made > 20 {
		t.Errorf("the first of 1000 matches takes %v pieces of memory", made)
	}
}
