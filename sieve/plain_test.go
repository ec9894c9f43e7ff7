package sieve_test

import (
	"strings"
	"testing"
	"unsafe"

	"sieve/api"
	"sieve/sieve"
)

func wantPlain(t *testing.T, text, want string, rules int) {
	t.Helper()
	got, n, errno := sieve.Plain(text)
	if got != want || n != rules || errno != api.OK {
		t.Errorf("Plain(%.60q) = %q, %d, %d, want %q, %d, OK", text, got, n, errno, want, rules)
	}
}

func wantRefused(t *testing.T, text string, at int, want api.Errno) {
	t.Helper()
	got, n, errno := sieve.Plain(text)
	if got != "" || n != at || errno != want {
		t.Errorf("Plain(%.60q) = %q, %d, %d, want \"\", %d, %d", text, got, n, errno, at, want)
	}
}

// P1: where several errors apply, the one named first is told.
func TestP1FirstErrorOfSeveral(t *testing.T) {
	wantRefused(t, strings.Repeat("!", 401), 0, api.ErrLimit)
	wantRefused(t, strings.Repeat("a:(1);", 9)+"!", 54, api.ErrText)
	wantRefused(t, "a:(1)(2)(3)(4)(5)", 17, api.ErrText)
	wantRefused(t, "a:(1 a b c d e);b", 17, api.ErrText)
	wantRefused(t, "a:(1 a b c d e)x", 15, api.ErrText)
}

// P1: no text makes a call panic or go on for ever.
func TestP1EveryCallEnds(t *testing.T) {
	for _, text := range []string{"", "a", "a:(1);", "\x00", "\xff\xfe", "ä:(1);", strings.Repeat("(", 1<<20), strings.Repeat("a:(1);", 9)} {
		if got, _, errno := sieve.Plain(text); errno != api.OK && got != "" {
			t.Errorf("Plain(%.60q) = %q beside the error %d", text, got, errno)
		}
		if net, errno := sieve.New(text); errno != api.OK && net != nil {
			t.Errorf("New(%.60q) gives a net beside the error %d", text, errno)
		}
	}
}

// P2: the answer is new memory, even where it is the text itself.
func TestP2NewMemory(t *testing.T) {
	text := "a:(1 x);\n"
	first, _, _ := sieve.Plain(text)
	second, _, _ := sieve.Plain(text)
	if first != text || second != text {
		t.Fatalf("Plain(%q) = %q, then %q", text, first, second)
	}
	if unsafe.StringData(first) == unsafe.StringData(text) || unsafe.StringData(first) == unsafe.StringData(second) {
		t.Error("the answer shares memory")
	}
}

// P2: a string over bytes that change later must leave the answer alone, and the bytes too.
func TestP2TextIsNeitherKeptNorChanged(t *testing.T) {
	room := []byte("a:(1 x)!(2 -07);spare")
	text := unsafe.String(&room[0], 16)
	got, _, _ := sieve.Plain(text)
	if string(room) != "a:(1 x)!(2 -07);spare" {
		t.Errorf("the text's memory is now %q", room)
	}
	for i := range room {
		room[i] = '#'
	}
	if got != "a:(1 x)!(2 -7);\n" {
		t.Errorf("the answer changed to %q with the text", got)
	}
}

// P2: what was asked ahead leaves no trace.
func TestP2AnswersHangOnTheTextAlone(t *testing.T) {
	for range 3 {
		wantPlain(t, "a:(1 x);", "a:(1 x);\n", 1)
		wantRefused(t, "a:(1", 4, api.ErrText)
		wantRefused(t, "a:(1 a b c d e);", 0, api.ErrLimit)
		wantPlain(t, "", "", 0)
	}
}

// P3: the plain form.
func TestP3PlainForm(t *testing.T) {
	wantPlain(t, "a : ( 1 x -05 _ ) ! (2x7) ; ", "a:(1 x -5 _)!(2 x 7);\n", 1)
	wantPlain(t, "a:(0);", "a:(0);\n", 1)
	wantPlain(t, "a:(1)!(2)(3)!(4);b:(5);", "a:(1)!(2)(3)!(4);\nb:(5);\n", 2)
	wantPlain(t, "a:(1 0 -0 00 -000000000);", "a:(1 0 0 0 0);\n", 1)
	wantPlain(t, "a:(1 10 -10 0100 -000000001);", "a:(1 10 -10 100 -1);\n", 1)
	wantPlain(t, "a:(1 999999999 -999999999);", "a:(1 999999999 -999999999);\n", 1)
	wantPlain(t, "same:(1 a z _ a);same:(1);", "same:(1 a z _ a);\nsame:(1);\n", 2)
}

// P3: what is plain already stays as it is.
func TestP3PlainStaysPlain(t *testing.T) {
	for _, text := range samples() {
		plain, n, errno := sieve.Plain(text)
		if errno != api.OK {
			t.Errorf("Plain(%q) is refused: %d", text, errno)
			continue
		}
		wantPlain(t, plain, plain, n)
	}
}

// P4: blanks between any two things, ahead of all and behind all.
func TestP4Blanks(t *testing.T) {
	wantPlain(t, "", "", 0)
	wantPlain(t, " \n\n ", "", 0)
	wantPlain(t, " \nab\n : \n( \n1 \nx\n -2 \n_ \n)\n ! \n( \n3 \n)\n ; \n", "ab:(1 x -2 _)!(3);\n", 1)
	wantPlain(t, "a:(1xy_z);", "a:(1 x y _ z);\n", 1)
	wantPlain(t, "a:(1x1_2);", "a:(1 x 1 _ 2);\n", 1)
	wantPlain(t, "a:(1-1-2);", "a:(1 -1 -2);\n", 1)
	wantPlain(t, "a:(1\n1\n2x);", "a:(1 1 2 x);\n", 1)
	wantPlain(t, "a:(1 123456789-1);", "a:(1 123456789 -1);\n", 1)
	wantRefused(t, "a b:(1);", 2, api.ErrText)
	wantRefused(t, "a:(1 - 1);", 6, api.ErrText)
	wantRefused(t, "a:(1 1 2 3\t);", 10, api.ErrText)
	wantRefused(t, "a:(1)\r;", 5, api.ErrText)
}

// P4: the place at which a text can't go on.
func TestP4Places(t *testing.T) {
	for _, c := range []struct {
		text string
		at   int
	}{
		{"a:(1x", 5}, {"a:(12)", 4}, {"a:!", 2}, {"a(1)", 1},
		{"a", 1}, {"abcdefgh", 8}, {"abcdefghi", 8}, {"a ", 2}, {"a:(1) \n", 7}, {"a:(1)! ", 7},
		{"A:(1);", 0}, {"`", 0}, {"{", 0}, {"\x00", 0}, {"\xe4", 0}, {"  _", 2},
		{"a:;", 2}, {"a: !(1);", 3}, {"a:(1)!!", 6}, {"a:(1)!;", 6}, {"a:(1);;", 6},
		{"a:(", 3}, {"a:(/)", 3}, {"a:(:)", 3}, {"a:(-1)", 3}, {"a:()", 3},
		{"a:(1\x00", 4}, {"a:(1{", 4}, {"a:(1 +1)", 5}, {"a:(1 1/", 6}, {"a:(1 1:", 6},
		{"a:(1 -", 6}, {"a:(1 -)", 6}, {"a:(1 --1", 6}, {"a:(1x-y", 6},
		{"a:(1 1234567890)", 14}, {"a:(1-1234567890)", 14}, {"a:(1 123456789", 14}, {"a:(1x1234567890)", 14},
	} {
		wantRefused(t, c.text, c.at, api.ErrText)
	}
}

// P4: each bound, met and broken by one.
func TestP4Bounds(t *testing.T) {
	wantPlain(t, strings.Repeat(" ", 400), "", 0)
	wantRefused(t, strings.Repeat(" ", 401), 0, api.ErrLimit)
	wantRefused(t, strings.Repeat("!", 400), 0, api.ErrText)
	wantRefused(t, strings.Repeat(" ", 399)+"a", 400, api.ErrText)

	wantPlain(t, strings.Repeat("a:(1);", 8), strings.Repeat("a:(1);\n", 8), 8)
	wantRefused(t, strings.Repeat("a:(1);", 9), 0, api.ErrLimit)

	wantPlain(t, "a:(1)!(2)(3)!(4);", "a:(1)!(2)(3)!(4);\n", 1)
	wantRefused(t, "a:(1)(2)(3)(4)(5);", 0, api.ErrLimit)
	wantRefused(t, "b:(1);a:(1)(2)(3)(4)!(5);", 0, api.ErrLimit)

	wantPlain(t, "a:(1 a _ 1 -1);", "a:(1 a _ 1 -1);\n", 1)
	wantRefused(t, "a:(1 a _ 1 -1 b);", 0, api.ErrLimit)
	wantRefused(t, "a:(1)!(1abcde);", 0, api.ErrLimit)
}
