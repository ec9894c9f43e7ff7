// Package rules: rules as values, read from a text and written in their plain form.
package rules

// TermSort says what a term asks of the value at its place.
type TermSort int

const (
	Any      TermSort = iota // `_`: any value
	Variable                 // the value that the letter is bound to
	Number                   // this very value
)

// Term is one place of a condition.
type Term struct {
	Sort   TermSort
	Letter byte // of a Variable
	Value  int  // of a Number
}

// Cond is a condition.
type Cond struct {
	Negated bool
	Kind    int
	Terms   []Term
}

// Rule is a name and its conditions.
type Rule struct {
	Name  string
	Conds []Cond
}
