package nodes

import (
	"container/heap"
	"slices"
)

// agenda is the matches of a rule that have not fired. It is a heap, so that the
// next one to fire is found without going through them all.
type agenda struct {
	memory
}

// put lets a match that has come to be wait for its turn.
func (a *agenda) put(t token) { heap.Push(a, t) }

// next tells the match whose turn it is, if one waits.
func (a *agenda) next() (token, bool) {
	if len(a.tokens) == 0 {
		return token{}, false
	}
	return a.tokens[0], true
}

// take takes away the one that next tells: it has fired.
func (a *agenda) take() { heap.Pop(a) }

// forget: where the gaps are closed up it may be a heap no longer, so it is made one anew.
func (a *agenda) forget(gone func(t token) bool) {
	a.memory.forget(gone)
	heap.Init(a)
}

// Len is for package heap, as those that follow.
func (a *agenda) Len() int { return len(a.tokens) }

// Less: the newer one fires first, of those alike the first in their order.
func (a *agenda) Less(i, k int) bool {
	t, other := a.tokens[i], a.tokens[k]
	if age := compareAges(t, other); age != 0 {
		return age > 0
	}
	return compareFacts(t, other) < 0
}

// Swap lets two change places.
func (a *agenda) Swap(i, k int) { a.tokens[i], a.tokens[k] = a.tokens[k], a.tokens[i] }

// Push sets a token behind all others.
func (a *agenda) Push(t any) { a.keep(t.(token)) }

// Pop takes the hindmost token away.
func (a *agenda) Pop() any {
	end := len(a.tokens) - 1
	t := a.tokens[end]
	a.tokens = a.tokens[:end]
	return t
}

// compareAges answers more than 0 if t is newer than the other, less if it is
// older. A place without a fact counts 0, which is less than all facts' numbers:
// so one that has no more numbers is older.
func compareAges(t, other token) int {
	numbers, others := t.numbers(), other.numbers()
	greatestFirst(numbers[:])
	greatestFirst(others[:])
	return slices.Compare(numbers[:], others[:])
}

func greatestFirst(numbers []int) {
	slices.Sort(numbers)
	slices.Reverse(numbers)
}
