package rules

import (
	"strings"

	"sieve/api"
)

const (
	maxName   = 8 // letters of a name
	maxDigits = 9 // digits of a number
)

// parser goes through a text once, a byte at a time, never back.
type parser struct {
	text string
	at   int
	// excess is the first bound that was broken. It waits until the end,
	// because a text that is no rules is to be told ahead of one with too many.
	excess *Fault
}

// Parse reads rules. What is wrong comes back as a *Fault.
func Parse(text string) ([]Rule, error) {
	if len(text) > api.MaxText {
		return nil, &Fault{At: api.MaxText, What: ErrLimit}
	}
	p := &parser{text: text}
	list, err := p.rules()
	if err != nil {
		return nil, err
	}
	if p.excess != nil {
		return nil, p.excess
	}
	return list, nil
}

func (p *parser) rules() ([]Rule, error) {
	var list []Rule
	for p.skipBlanks(); p.at < len(p.text); p.skipBlanks() {
		p.noteExcess(len(list), api.MaxRules)
		r, err := p.rule()
		if err != nil {
			return nil, err
		}
		list = append(list, r)
	}
	return list, nil
}

func (p *parser) rule() (Rule, error) {
	name, err := p.name()
	if err != nil {
		return Rule{}, err
	}
	if err := p.expect(':'); err != nil {
		return Rule{}, err
	}
	conds, err := p.conds()
	if err != nil {
		return Rule{}, err
	}
	return Rule{Name: name, Conds: conds}, nil
}

func (p *parser) name() (string, error) {
	start := p.at
	for isLetter(p.peek()) && p.at < start+maxName {
		p.at++
	}
	if p.at == start {
		return "", p.wrong()
	}
	// A piece of the text would keep all of it in memory.
	return strings.Clone(p.text[start:p.at]), nil
}

// conds reads the conditions and the `;` behind them.
func (p *parser) conds() ([]Cond, error) {
	// The first one may not be negated, so no `!` is taken ahead of it.
	first, err := p.cond()
	if err != nil {
		return nil, err
	}
	list := []Cond{first}
	for !p.take(';') {
		p.noteExcess(len(list), api.MaxConds)
		negated := p.take('!')
		c, err := p.cond()
		if err != nil {
			return nil, err
		}
		c.Negated = negated
		list = append(list, c)
	}
	return list, nil
}

// cond reads a condition from its `(` on.
func (p *parser) cond() (Cond, error) {
	if err := p.expect('('); err != nil {
		return Cond{}, err
	}
	kind, err := p.kind()
	if err != nil {
		return Cond{}, err
	}
	terms, err := p.terms()
	if err != nil {
		return Cond{}, err
	}
	return Cond{Kind: kind, Terms: terms}, nil
}

func (p *parser) kind() (int, error) {
	p.skipBlanks()
	c := p.peek()
	if !isDigit(c) {
		return 0, p.wrong()
	}
	p.at++
	return int(c - '0'), nil
}

// terms reads the terms and the `)` behind them.
func (p *parser) terms() ([]Term, error) {
	var list []Term
	for !p.take(')') {
		p.noteExcess(len(list), api.MaxTerms)
		t, err := p.term()
		if err != nil {
			return nil, err
		}
		list = append(list, t)
	}
	return list, nil
}

func (p *parser) term() (Term, error) {
	switch c := p.peek(); {
	case c == '_':
		p.at++
		return Term{Sort: Any}, nil
	case isLetter(c):
		p.at++
		return Term{Sort: Variable, Letter: c}, nil
	case c == '-', isDigit(c) && !p.behindDigit():
		return p.number()
	}
	return Term{}, p.wrong()
}

// behindDigit: ahead of a term only the kind or another number ends in a digit,
// and a number without `-` must stand apart from either.
func (p *parser) behindDigit() bool {
	return p.at > 0 && isDigit(p.text[p.at-1])
}

func (p *parser) number() (Term, error) {
	negative := p.peek() == '-'
	if negative {
		p.at++
	}
	start, value := p.at, 0
	for isDigit(p.peek()) && p.at < start+maxDigits {
		value = value*10 + int(p.peek()-'0')
		p.at++
	}
	if p.at == start {
		return Term{}, p.wrong()
	}
	if negative {
		value = -value
	}
	return Term{Sort: Number, Value: value}, nil
}

// peek answers 0 at the end: that byte stands nowhere in rules,
// so whoever looks for something there is refused at the text's length.
func (p *parser) peek() byte {
	if p.at == len(p.text) {
		return 0
	}
	return p.text[p.at]
}

func (p *parser) skipBlanks() {
	for p.peek() == ' ' || p.peek() == '\n' {
		p.at++
	}
}

// take passes over c, if it comes next.
func (p *parser) take(c byte) bool {
	p.skipBlanks()
	if p.peek() != c {
		return false
	}
	p.at++
	return true
}

// expect is take where nothing else may come.
func (p *parser) expect(c byte) error {
	if !p.take(c) {
		return p.wrong()
	}
	return nil
}

// wrong: the text can't go on here.
func (p *parser) wrong() error {
	return &Fault{At: p.at, What: ErrText}
}

// noteExcess: one more comes here; if most are there already, that breaks a bound.
func (p *parser) noteExcess(have, most int) {
	if have >= most && p.excess == nil {
		p.excess = &Fault{At: p.at, What: ErrLimit}
	}
}

func isLetter(c byte) bool { return 'a' <= c && c <= 'z' }

func isDigit(c byte) bool { return '0' <= c && c <= '9' }
