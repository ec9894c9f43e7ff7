package rules

import (
	"strconv"
	"strings"
)

// Plain writes rules in their plain form.
func Plain(list []Rule) string {
	var b strings.Builder
	for _, r := range list {
		writeRule(&b, r)
	}
	return b.String()
}

func writeRule(b *strings.Builder, r Rule) {
	b.WriteString(r.Name)
	b.WriteByte(':')
	for _, c := range r.Conds {
		writeCond(b, c)
	}
	b.WriteString(";\n")
}

func writeCond(b *strings.Builder, c Cond) {
	if c.Negated {
		b.WriteByte('!')
	}
	b.WriteByte('(')
	b.WriteString(strconv.Itoa(c.Kind))
	for _, t := range c.Terms {
		b.WriteByte(' ')
		writeTerm(b, t)
	}
	b.WriteByte(')')
}

func writeTerm(b *strings.Builder, t Term) {
	switch t.Sort {
	case Any:
		b.WriteByte('_')
	case Variable:
		b.WriteByte(t.Letter)
	case Number:
		b.WriteString(strconv.Itoa(t.Value))
	}
}
