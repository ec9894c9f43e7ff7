package sieve_test

import (
	"regexp"
	"slices"
	"strings"
	"testing"

	"sieve/api"
	"sieve/sieve"
)

// The grammar once more, as a regular expression, so that Plain is held against
// a second reading of the document and not against its own parser.
const (
	blanks = `[ \n]*`
	terms  = `(?:` + blanks + `[a-z_](?:[0-9]{1,9})?|` + blanks + `-[0-9]{1,9}|[ \n]+[0-9]{1,9})*`
	cond   = `\(` + blanks + `[0-9]` + terms + blanks + `\)` + blanks
	rule   = `[a-z]{1,8}` + blanks + `:` + blanks + cond + `(?:(?:!` + blanks + `)?` + cond + `)*;` + blanks
)

var grammar = regexp.MustCompile(`^` + blanks + `(?:` + rule + `)*\z`)

// canGoOn: some text of rules begins with this one. Whatever stands at its end,
// one of these endings completes it if anything does.
func canGoOn(text string) bool {
	return slices.ContainsFunc([]string{"", ":(1);", "(1);", "1);", ");", ";"}, func(end string) bool {
		return grammar.MatchString(text + end)
	})
}

func wantedPlace(text string) int {
	for at := range len(text) {
		if !canGoOn(text[:at+1]) {
			return at
		}
	}
	return len(text)
}

// samples are rules within the bounds, with every way to write a thing.
func samples() []string {
	return []string{
		"",
		"a:(1);",
		"p:(1 x y)(2 y);q:(1 x x)!(2 x);",
		" ab : ( 1 x -05 _ ) ! (2x7) ;\n",
		"abcdefgh:(0)(9-1 123456789x00);z:(1_1);",
	}
}

// holdAgainstGrammar asks for the same verdict and place; bounds are told elsewhere.
func holdAgainstGrammar(t *testing.T, text string) {
	t.Helper()
	got, n, errno := sieve.Plain(text)
	if grammar.MatchString(text) {
		if errno != api.ErrLimit && (errno != api.OK || n != strings.Count(text, ";")) {
			t.Errorf("Plain(%q) = %q, %d, %d, but it is rules", text, got, n, errno)
		}
		return
	}
	if want := wantedPlace(text); got != "" || n != want || errno != api.ErrText {
		t.Errorf("Plain(%q) = %q, %d, %d, want %d, ErrText", text, got, n, errno, want)
	}
}

// P1, P4: every short text over the bytes that matter, behind every kind of beginning.
func TestP4ShortTexts(t *testing.T) {
	const letters = "a1:(-!); _\x00"
	for _, start := range []string{"", "a", "abcdefg", "a:", "a:(", "a:(1", "a:(1 12345678", "a:(1)", "a:(1)!", "a:(1);"} {
		for _, end := range textsOver(letters, 3) {
			holdAgainstGrammar(t, start+end)
		}
	}
}

func textsOver(letters string, longest int) []string {
	all := []string{""}
	for last := all; longest > 0; longest-- {
		var longer []string
		for _, text := range last {
			for i := range len(letters) {
				longer = append(longer, text+letters[i:i+1])
			}
		}
		all = append(all, longer...)
		last = longer
	}
	return all
}

// P1, P4: one byte put in, left out or changed, at every place, to every byte.
func TestP4ChangedTexts(t *testing.T) {
	for _, text := range samples() {
		for at := range len(text) {
			holdAgainstGrammar(t, text[:at])
			holdAgainstGrammar(t, text[:at]+text[at+1:])
			for b := range 256 {
				put := string([]byte{byte(b)})
				holdAgainstGrammar(t, text[:at]+put+text[at:])
				holdAgainstGrammar(t, text[:at]+put+text[at+1:])
			}
		}
	}
}
