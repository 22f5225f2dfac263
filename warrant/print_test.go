package warrant_test

import (
	"fmt"
	"math/rand/v2"
	"reflect"
	"strings"
	"testing"

	"warrant/plain"
	"warrant/warrant"
)

func TestPrint(t *testing.T) {
	x, y, one := variable("x"), variable("y"), number(1)
	p, q := atom("p", x), atom("q", x)
	lots := guard(x, 3, one)
	for _, c := range []struct {
		block warrant.Block
		want  string
	}{
		{warrant.Block{}, ""},
		{facts(atom("p")), "p();\n"},
		{facts(atom("p"), atom("p"), atom("a_1", one, one)), "p();\np();\na_1(1, 1);\n"},
		{facts(atom("check")), "check();\n"},
		{facts(atom("p", number(0), number(-1), number(10), number(-1<<63), number(1<<63-1))), "p(0, -1, 10, -9223372036854775808, 9223372036854775807);\n"},
		{facts(atom("p", date(0), date(-5), date(1700000000), date(-1<<63))), "p(@0, @-5, @1700000000, @-9223372036854775808);\n"},
		{facts(atom("p", truth(0), truth(1))), "p(false, true);\n"},
		{facts(atom("p", raw(""), raw("\x00\x0a\xff"), raw("abc"))), "p(hex:, hex:000aff, hex:616263);\n"},
		{facts(atom("p", list(), list(one), list(one, list(), list(text("a"), list(raw("\xaf")))))), "p([], [1], [1, [], [\"a\", [hex:af]]]);\n"},
		{rules(warrant.Rule{Head: p, Body: atoms(q)}), "p($x) <- q($x);\n"},
		{rules(warrant.Rule{Head: p, Body: atoms(q, atom("r", y)), Guards: []warrant.Guard{lots, guard(y, 7, text("a"))}}), "p($x) <- q($x), r($y), $x < 1, $y ^= \"a\";\n"},
		{rules(warrant.Rule{Head: atom("p"), Guards: []warrant.Guard{guard(one, 1, list())}}), "p() <- 1 == [];\n"},
		{check(body(atoms(p))), "check if p($x);\n"},
		{check(body(nil, guard(one, 1, one), guard(one, 2, one), guard(one, 3, one), guard(one, 4, one)), body(nil, guard(one, 5, one), guard(one, 6, one), guard(one, 7, one))), "check if 1 == 1, 1 != 1, 1 < 1, 1 <= 1 or 1 > 1, 1 >= 1, 1 ^= 1;\n"},
		{check(body(atoms(p), lots), body(atoms(q)), body(nil, guard(text("or"), 2, truth(1)))), "check if p($x), $x < 1 or q($x) or \"or\" != true;\n"},
		{warrant.Block{
			Checks: []warrant.Check{{Either: []warrant.Rule{body(atoms(p))}}, {Either: []warrant.Rule{body(atoms(q))}}},
			Rules:  []warrant.Rule{{Head: p, Body: atoms(p)}, {Head: q, Body: atoms(p)}},
			Facts:  atoms(atom("r"), atom("s")),
		}, "r();\ns();\np($x) <- p($x);\nq($x) <- p($x);\ncheck if p($x);\ncheck if q($x);\n"},
	} {
		if got, err := warrant.Print(c.block); err != nil || got != c.want {
			t.Errorf("P7: %+v: %s %q, want %q", c.block, told(err), got, c.want)
		}
		if got, reason := plain.Print(c.block); reason != 0 || got != c.want {
			t.Errorf("P7: %+v, by plain: %d %q, want %q", c.block, reason, got, c.want)
		}
	}
}

func TestPrintExample(t *testing.T) {
	b, err := warrant.Parse(`right("a"); may($x) <- right($x), $x != "b";`)
	if err != nil {
		t.Fatal(told(err))
	}
	want := "right(\"a\");\nmay($x) <- right($x), $x != \"b\";\n"
	if got, err := warrant.Print(b); err != nil || got != want {
		t.Errorf("P7: example 1: %s %q, want %q", told(err), got, want)
	}
}

// Every byte that a string of UTF-8 may have, and what is beyond one byte.
func TestPrintStrings(t *testing.T) {
	for c := range 128 {
		want := string(rune(c))
		switch {
		case c == '"' || c == '\\':
			want = `\` + want
		case c == '\n':
			want = `\n`
		case c == '\t':
			want = `\t`
		case c == '\r':
			want = `\r`
		case c < 32:
			want = fmt.Sprintf(`\u%04x`, c)
		}
		printsAs(t, string(rune(c)), want)
	}
	for _, s := range []string{"", "é", "\u0080", "\u009f", "\u2028", "\ufeff", "\ufffd", "\U0001f600", "a/b'c`d", "$x // no note; <- ,"} {
		printsAs(t, s, s)
	}
	printsAs(t, "\x1f\x01\x10\"\\é\x7f", `\u001f\u0001\u0010\"\\é`+"\x7f")
	printsAs(t, strings.Repeat("\x00", 64), strings.Repeat(`\u0000`, 64))
}

func printsAs(t *testing.T, s, want string) {
	t.Helper()
	want = `p("` + want + "\");\n"
	b := facts(atom("p", text(s)))
	if got, err := warrant.Print(b); err != nil || got != want {
		t.Errorf("P7: the string %q: %s %q, want %q", s, told(err), got, want)
	}
	if again, err := warrant.Parse(want); err != nil || !reflect.DeepEqual(again, b) {
		t.Errorf("P7: the string %q: Parse of what is printed: %s %+v", s, told(err), again)
	}
}

// What Print makes, Parse reads as it was, if no atom has a name that the language keeps.
func TestPrintedIsRead(t *testing.T) {
	r := rand.New(rand.NewPCG(3, 4))
	for range 5_000 {
		b := randomBlock(r)
		printed, err := warrant.Print(b)
		if err != nil {
			t.Fatalf("P7: %+v: %s", b, told(err))
		}
		if len(printed) > 8_000 {
			continue
		}
		if again, err := warrant.Parse(printed); err != nil || !reflect.DeepEqual(again, b) {
			t.Fatalf("P7: %q: %s %+v, want %+v", printed, told(err), again, b)
		}
	}
}
