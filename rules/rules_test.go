package rules

import (
	"errors"
	"reflect"
	"strings"
	"testing"
	"unsafe"

	"sieve/api"
)

func variable(c byte) Term { return Term{Sort: Variable, Letter: c} }
func number(n int) Term    { return Term{Sort: Number, Value: n} }

func TestParseTellsWhatStandsThere(t *testing.T) {
	got, err := Parse("ab:(1 x -05 _)!(2x7);\nz:(0)(9 000000000 -0 999999999-999999999);")
	if err != nil {
		t.Fatal(err)
	}
	want := []Rule{
		{Name: "ab", Conds: []Cond{
			{Kind: 1, Terms: []Term{variable('x'), number(-5), {Sort: Any}}},
			{Negated: true, Kind: 2, Terms: []Term{variable('x'), number(7)}},
		}},
		{Name: "z", Conds: []Cond{
			{Kind: 0},
			{Kind: 9, Terms: []Term{number(0), number(0), number(api.MaxNumber), number(-api.MaxNumber)}},
		}},
	}
	if !reflect.DeepEqual(got, want) {
		t.Errorf("Parse = %+v, want %+v", got, want)
	}
}

func TestFaultSaysWhereAndWrapsWhat(t *testing.T) {
	for _, c := range []struct {
		text string
		at   int
		what error
		word string
	}{
		{"a(1)", 1, ErrText, "byte 1: the text is no rules"},
		{"a:(1 a b c d e", 14, ErrText, "byte 14: the text is no rules"},
		{"a:(1 a b c d e)(2)(3)(4)(5);", 13, ErrLimit, "byte 13: there is more than there may be"},
		{"a:(1)!(2)(3)(4) !(5);", 16, ErrLimit, "byte 16: there is more than there may be"},
		{strings.Repeat("a:(1);", 9), 48, ErrLimit, "byte 48: there is more than there may be"},
		{strings.Repeat("!", 401), 400, ErrLimit, "byte 400: there is more than there may be"},
	} {
		list, err := Parse(c.text)
		var fault *Fault
		if list != nil || !errors.As(err, &fault) {
			t.Errorf("Parse(%.40q) = %v, %v, want a fault alone", c.text, list, err)
			continue
		}
		if fault.At != c.at || !errors.Is(err, c.what) || err.Error() != c.word {
			t.Errorf("Parse(%.40q): %v, want %q", c.text, err, c.word)
		}
	}
}

func TestTheTwoFaultsAreToldApart(t *testing.T) {
	_, noRules := Parse("!")
	_, tooMuch := Parse("a:(1 a b c d e);")
	if errors.Is(noRules, ErrLimit) || errors.Is(tooMuch, ErrText) {
		t.Errorf("%v and %v are taken for each other", noRules, tooMuch)
	}
}

// A name that is a piece of the text would keep the text (P2).
func TestNamesAreNewMemory(t *testing.T) {
	text := "name:(1);"
	list, err := Parse(text)
	if err != nil {
		t.Fatal(err)
	}
	if unsafe.StringData(list[0].Name) == unsafe.StringData(text) {
		t.Error("the name is a piece of the text")
	}
}

func TestPlainOfNothing(t *testing.T) {
	if got := Plain(nil); got != "" {
		t.Errorf("Plain(nil) = %q", got)
	}
}
