package warrant_test

import (
	"reflect"
	"strconv"
	"strings"
	"testing"

	"warrant/plain"
	"warrant/warrant"
)

func TestParse(t *testing.T) {
	x, y := variable("x"), variable("y")
	p := atom("p")
	for _, c := range []struct {
		text string
		want warrant.Block
	}{
		{"", warrant.Block{}},
		{" // nothing", warrant.Block{}},
		{`right("a"); may($x) <- right($x), $x != "b";`, warrant.Block{
			Facts: atoms(atom("right", text("a"))),
			Rules: []warrant.Rule{{Head: atom("may", x), Body: atoms(atom("right", x)), Guards: []warrant.Guard{guard(x, 2, text("b"))}}},
		}},
		{"p();", facts(p)},
		{"p([]);", facts(atom("p", list()))},
		{`p(1, @2, "3", hex:04, true, [5, [false, [@6, hex:]]]);`, facts(atom("p", number(1), date(2), text("3"), raw("\x04"), truth(1), list(number(5), list(truth(0), list(date(6), raw(""))))))},
		{"p([[[]], [[]], [1, 2, 3, 4, 5, 6]]);", facts(atom("p", list(list(list()), list(list()), list(number(1), number(2), number(3), number(4), number(5), number(6)))))},
		{"p() <- 1 < 2;", rules(warrant.Rule{Head: p, Guards: []warrant.Guard{guard(number(1), 3, number(2))}})},
		{"p($x, $x, 1) <- q($y, $x);", rules(warrant.Rule{Head: atom("p", x, x, number(1)), Body: atoms(atom("q", y, x))})},
		{"p($x) <- $x > $y, q($x), r(), q($y);", rules(warrant.Rule{Head: atom("p", x), Body: atoms(atom("q", x), atom("r"), atom("q", y)), Guards: []warrant.Guard{guard(x, 5, y)}})},
		{"check if p();", check(body(atoms(p)))},
		{"check if true == false or [1] != [] or p(), \"a\" ^= \"\";", check(
			body(nil, guard(truth(1), 1, truth(0))),
			body(nil, guard(list(number(1)), 2, list())),
			body(atoms(p), guard(text("a"), 7, text(""))),
		)},
		{"check if 1 == 1, 1 != 2, 1 < 2, 1 <= 2 or 1 > 2, 1 >= 2, hex: ^= hex:;", check(
			body(nil, guard(number(1), 1, number(1)), guard(number(1), 2, number(2)), guard(number(1), 3, number(2)), guard(number(1), 4, number(2))),
			body(nil, guard(number(1), 5, number(2)), guard(number(1), 6, number(2)), guard(raw(""), 7, raw(""))),
		)},
		{"check if q($x), p($x) or q($x), $x < $x;", check(body(atoms(atom("q", x), atom("p", x))), body(atoms(atom("q", x)), guard(x, 3, x)))},
		{"check if p(); p() <- p(); p(); p() <- q(); q(); check if q();", warrant.Block{
			Facts:  atoms(p, atom("q")),
			Rules:  []warrant.Rule{{Head: p, Body: atoms(p)}, {Head: p, Body: atoms(atom("q"))}},
			Checks: []warrant.Check{{Either: []warrant.Rule{body(atoms(p))}}, {Either: []warrant.Rule{body(atoms(atom("q")))}}},
		}},
		{"p(); p();", facts(p, p)},
	} {
		b, err := warrant.Parse(c.text)
		if err != nil || !reflect.DeepEqual(b, c.want) {
			t.Errorf("P6: %q: %s %v, want %v", c.text, told(err), b, c.want)
		}
		if b, reason, at := plain.Parse(c.text); reason != 0 || at != -1 || !reflect.DeepEqual(b, c.want) {
			t.Errorf("P6: %q, by plain: %d at %d, %v, want %v", c.text, reason, at, b, c.want)
		}
	}
}

func TestParsePolicies(t *testing.T) {
	p, x := atom("p"), variable("x")
	for _, c := range []struct {
		text string
		want []warrant.Policy
	}{
		{"", nil},
		{"\n// nothing\n", nil},
		{"allow if p();", []warrant.Policy{{Allow: true, Either: []warrant.Rule{body(atoms(p))}}}},
		{"deny if 1 < 2 or p();", []warrant.Policy{{Either: []warrant.Rule{body(nil, guard(number(1), 3, number(2))), body(atoms(p))}}}},
		{"deny if p(); allow if p($x), $x >= @1; deny if p();", []warrant.Policy{
			{Either: []warrant.Rule{body(atoms(p))}},
			{Allow: true, Either: []warrant.Rule{body(atoms(atom("p", x)), guard(x, 6, date(1)))}},
			{Either: []warrant.Rule{body(atoms(p))}},
		}},
	} {
		got, err := warrant.ParsePolicies(c.text)
		if err != nil || !reflect.DeepEqual(got, c.want) {
			t.Errorf("P6: %q: %s %v, want %v", c.text, told(err), got, c.want)
		}
		if got, reason, at := plain.ParsePolicies(c.text); reason != 0 || at != -1 || !reflect.DeepEqual(got, c.want) {
			t.Errorf("P6: %q, by plain: %d at %d, %v, want %v", c.text, reason, at, got, c.want)
		}
	}
}

// refusal is a text, and what is told of it.
type refusal struct{ text, want string }

func refused(t *testing.T, cases []refusal) {
	t.Helper()
	for _, c := range cases {
		b, err := warrant.Parse(c.text)
		if got := told(err); got != c.want || !reflect.DeepEqual(b, warrant.Block{}) {
			t.Errorf("P6: %q: %s %v, want %s and nothing", c.text, got, b, c.want)
		}
	}
}

func policiesRefused(t *testing.T, cases []refusal) {
	t.Helper()
	for _, c := range cases {
		l, err := warrant.ParsePolicies(c.text)
		if got := told(err); got != c.want || l != nil {
			t.Errorf("P6: %q: %s %v, want %s and nothing", c.text, got, l, c.want)
		}
	}
}

func TestStatementsRefused(t *testing.T) {
	refused(t, []refusal{
		{"p", "form at 1"},
		{"p;", "form at 1"},
		{"p 1);", "form at 2"},
		{"p(", "form at 2"},
		{"p()", "form at 3"},
		{"p() \n", "form at 5"},
		{"p() q();", "form at 4"},
		{"p(),", "form at 3"},
		{"p() or q();", "form at 4"},
		{"p();;", "form at 4"},
		{"p(); q", "form at 6"},
		{";", "form at 0"},
		{"(1);", "form at 0"},
		{"1;", "form at 0"},
		{" $x;", "form at 1"},
		{`"p"(1);`, "form at 0"},
		{"hex:00(1);", "form at 0"},
		{"<- p();", "form at 0"},
		{"allow(1);", "form at 0"},
		{"allow if p();", "form at 0"},
		{"deny if p();", "form at 0"},
		{"if(1);", "form at 0"},
		{"or(1);", "form at 0"},
		{"true(1);", "form at 0"},
		{"false(1);", "form at 0"},
		{"hex(1);", "form at 0"},
		{"check", "form at 5"},
		{"check;", "form at 5"},
		{"check(1);", "form at 5"},
		{"check p();", "form at 6"},
		{"check or p();", "form at 6"},
		{"check if", "form at 8"},
		{"check if;", "form at 8"},
		{"check if p()", "form at 12"},
		{"check if p() <- q();", "form at 13"},
		{"check if p() or", "form at 15"},
		{"check if p() or;", "form at 15"},
		{"check if or p();", "form at 9"},
		{"check if p() or or p();", "form at 16"},
		{"check if p() if p();", "form at 13"},
		{"p() <-", "form at 6"},
		{"p() <- ;", "form at 7"},
		{"p() <- q(),;", "form at 11"},
		{"p() <- , q();", "form at 7"},
		{"p() <- q() or r();", "form at 11"},
		{"p() <- q() r();", "form at 11"},
		{"p() <- q() <- r();", "form at 11"},
	})
	policiesRefused(t, []refusal{
		{"p();", "form at 0"},
		{"check if p();", "form at 0"},
		{"if p();", "form at 0"},
		{";", "form at 0"},
		{"1", "form at 0"},
		{"allowed if p();", "form at 0"},
		{"allow", "form at 5"},
		{"allow(1);", "form at 5"},
		{"deny p();", "form at 5"},
		{"deny if", "form at 7"},
		{"allow if ;", "form at 9"},
		{"allow if p()", "form at 12"},
		{"allow if p() <- p();", "form at 13"},
		{"allow if p(); deny", "form at 18"},
		{"allow if p(); p();", "form at 14"},
		{"allow if p(007);", "word at 11"},
		{"allow if p([[[[]]]]);", "deep at 14"},
		{"allow if p(\"" + strings.Repeat("s", 65) + "\");", "limit at 11"},
	})
}

func TestBodiesRefused(t *testing.T) {
	refused(t, []refusal{
		{"check if true;", "form at 13"},
		{"check if true(1);", "form at 13"},
		{"check if false, p();", "form at 14"},
		{"check if 1;", "form at 10"},
		{"check if 1 <;", "form at 12"},
		{"check if 1 < 2 < 3;", "form at 15"},
		{"check if 1 <- 2;", "form at 11"},
		{"check if 1 , 2;", "form at 11"},
		{"check if 1 2;", "form at 11"},
		{"check if 1 = 2;", "word at 11"},
		{"check if < 2;", "form at 9"},
		{"check if 1 < p();", "form at 13"},
		{"check if 1 < or;", "form at 13"},
		{"check if p;", "form at 10"},
		{"check if p == 1;", "form at 11"},
		{"check if p() == 1;", "form at 13"},
		{"check if (1 < 2);", "form at 9"},
		{"check if if(1);", "form at 9"},
		{"check if hex(1);", "form at 9"},
		{"check if check(1);", "form at 9"},
		{"check if allow(1);", "form at 9"},
		{"check if deny(1);", "form at 9"},
		{"check if p(), or(1);", "form at 14"},
		{"check if [$x] == [1], p($x);", "form at 10"},
		{"check if [[[[]]]] == 1;", "deep at 12"},
	})
}

func TestTermsRefused(t *testing.T) {
	refused(t, []refusal{
		{"p(,1);", "form at 2"},
		{"p(1,);", "form at 4"},
		{"p(1,,2);", "form at 4"},
		{"p(1 2);", "form at 4"},
		{"p(1;", "form at 3"},
		{"p(1];", "form at 3"},
		{"p(];", "form at 2"},
		{"p(a);", "form at 2"},
		{"p(q(1));", "form at 2"},
		{"p(or);", "form at 2"},
		{"p(();", "form at 2"},
		{"p([);", "form at 3"},
		{"p([", "form at 3"},
		{"p([1);", "form at 4"},
		{"p([1,]);", "form at 5"},
		{"p([,1]);", "form at 3"},
		{"p([1 2]);", "form at 5"},
		{"p([$x]);", "form at 3"},
		{"p([1, [$x]]);", "form at 7"},
		{"p([$1]);", "word at 3"},
		{"p([[[[]]]]);", "deep at 5"},
		{"p([[[[", "deep at 5"},
		{"p([[[[?", "deep at 5"},
		{"p([[[1, []]]]);", "deep at 8"},
		{"p([[], [[], [ []]]]);", "deep at 14"},
		{"p(" + strings.Repeat("[", 7_000), "deep at 5"},
	})
}

func TestFree(t *testing.T) {
	refused(t, []refusal{
		{"p($x);", "free at 0"},
		{"p(1, $x);", "free at 0"},
		{"q(); p($x);", "free at 5"},
		{" p($x)", "free at 1"},
		{"p($x) q", "free at 0"},
		{"p($x), q($x);", "free at 0"},
		{"p($x) ?", "word at 6"},
		{"p($x 1);", "form at 5"},
		{"p($x) <- q($y);", "free at 0"},
		{"q(); p($x, $y) <- q($x);", "free at 5"},
		{"p($x) <- 1 < 2;", "free at 0"},
		{"p($x) <- q($y) foo", "free at 0"},
		{"p($x) <- q($y) ?", "word at 15"},
		{"p($x) <- q($y),;", "form at 15"},
		{"p($x) <- q([1], \"x\", hex:);", "free at 0"},
		{"p($x) <- q(), $x == $x;", "free at 9"},
		{"p($x) <- q($y), $x == 1;", "free at 9"},
		{"p($x) <- q($x), $y == 1;", "free at 9"},
		{"p($x) <- q($x), 1 == $y;", "free at 9"},
		{"p($y) <- q($x), 1 == $z;", "free at 9"},
		{"check if $x < 1;", "free at 9"},
		{"check if 1 < $x;", "free at 9"},
		{"check if 1 < 2, $x < 1, p();", "free at 9"},
		{"check if p($x) or $x < 1;", "free at 18"},
		{"check if p($x), $y < 1 ?", "word at 23"},
		{"check if p($x), $y < 1 or ?", "free at 9"},
		{"check if p($x), $y < 1 or p();", "free at 9"},
		{"check if p($x), $y < 1 foo", "free at 9"},
		{"check if p($x), $y < 1", "free at 9"},
		{"check if p($x), $y < 1,", "form at 23"},
		{"check if p(\"x\"), $x < 1;", "free at 9"},
	})
	policiesRefused(t, []refusal{
		{"deny if $x < 1;", "free at 8"},
		{"allow if p($x), $x < 1 or p(), $x < 1;", "free at 26"},
	})
}

// times tells a text n times, with another between.
func times(n int, text, between string) string {
	return strings.Repeat(text+between, n-1) + text
}

// As many as may be of each thing.
func TestMost(t *testing.T) {
	body := times(4, "p(1, 2, 3, 4, 5, 6)", ", ") + ", " + times(4, "[1, 2, 3, 4, 5, 6] == 1", ", ")
	bodies := times(4, body, " or ")
	for _, text := range []string{
		"p(1, 2, 3, 4, 5, 6);",
		"p([[[1, 2, 3, 4, 5, 6], [], [], [], [], []], [], [], [], [], []]);",
		"p() <- " + body + ";",
		"check if " + bodies + ";",
		times(24, "p();", ""),
		times(24, "p() <- q();", ""),
		times(24, "check if p();", ""),
		times(24, "p(); p() <- p(); check if p();", " "),
		strings.Repeat(" ", 8_000),
		"p();//" + strings.Repeat("x", 7_994),
	} {
		if _, err := warrant.Parse(text); err != nil {
			t.Errorf("P6: %.60q: %s, want ok", text, told(err))
		}
	}
	for _, text := range []string{
		"allow if " + bodies + ";",
		times(24, "deny if p();", ""),
		times(12, "deny if p(); allow if p();", ""),
		strings.Repeat(" ", 8_000),
	} {
		if _, err := warrant.ParsePolicies(text); err != nil {
			t.Errorf("P6: %.60q: %s, want ok", text, told(err))
		}
	}
}

// limitAt tells a limit at a place that is counted, not written out.
func limitAt(place int) string { return "limit at " + strconv.Itoa(place) }

// One more than may be: told when it is whole and the token behind it is one.
func TestOneMore(t *testing.T) {
	refused(t, []refusal{
		{"p(1,2,3,4,5,6,7);", "limit at 14"},
		{"p(1,2,3,4,5,6,7", "limit at 14"},
		{"p(1,2,3,4,5,6,7 8", "limit at 14"},
		{"p(1,2,3,4,5,6,7 ?", "word at 16"},
		{"p(1,2,3,4,5,6,a);", "form at 14"},
		{"p(1,2,3,4,5,6,);", "form at 14"},
		{"p(1,2,3,4,5,6,[1,2);", "form at 18"},
		{"p(1,2,3,4,5,6,[1,2] );", "limit at 14"},
		{"p(1,2,3,4,5,6,[[[[]]]]);", "deep at 17"},
		{"p(1,2,3,4,5,6,[1,2,3,4,5,6,7]);", "limit at 27"},
		{"p(1,2,3,4,5,6,$x);", "limit at 14"},
		{"p([1,2,3,4,5,6,7]);", "limit at 15"},
		{"p([1,2,3,4,5,6,7", "limit at 15"},
		{"p([1,2,3,4,5,6,7?", "word at 16"},
		{"p([1,2,3,4,5,6,$x]);", "form at 15"},
		{"check if p(1,2,3,4,5,6,7);", "limit at 23"},
		{"check if [1,2,3,4,5,6,7] == 1;", "limit at 22"},

		{"p() <- p(),p(),p(),p(),p();", "limit at 23"},
		{"p() <- p(),p(),p(),p(),p()", "limit at 23"},
		{"p() <- p(),p(),p(),p(),p() ?", "word at 27"},
		{"p() <- p(),p(),p(),p(),p;", "form at 24"},
		{"p() <- p(),p(),p(),p(),p(1,2,3,4,5,6,7);", "limit at 37"},
		{"p($x) <- p(),p(),p(),p(),p(), $y < 1;", "limit at 25"},
		{"check if p(),1<2,p(),p(),p(),p();", "limit at 29"},

		{"p() <- 1<2,1<2,1<2,1<2,1<2;", "limit at 23"},
		{"p() <- 1<2,1<2,1<2,1<2,1<2", "limit at 23"},
		{"p() <- 1<2,1<2,1<2,1<2,1<2?", "word at 26"},
		{"p() <- 1<2,1<2,1<2,1<2,1<;", "form at 25"},
		{"p() <- 1<2,1<2,1<2,1<2,$x<2, p();", "limit at 23"},
		{"p() <- $x<2,1<2,1<2,1<2,p(),1<2;", "limit at 28"},

		{"check if p() or p() or p() or p() or p();", "limit at 37"},
		{"check if p() or p() or p() or p() or p()", "limit at 37"},
		{"check if p() or p() or p() or p() or p() or ;", "limit at 37"},
		{"check if p() or p() or p() or p() or p() ?", "word at 41"},
		{"check if p() or p() or p() or p() or p(),;", "form at 41"},
		{"check if p() or p() or p() or p() or $x < 1;", "free at 37"},
		{"check if p() or p() or p() or p() or p(), p(), p(), p(), p();", "limit at 57"},
	})
}

func TestOneMoreStatement(t *testing.T) {
	fact, rule, check := times(24, "p();", ""), times(24, "p() <- q();", ""), times(24, "check if p();", "")
	all := fact + rule + check
	n := len(all)
	refused(t, []refusal{
		{all + " p();", limitAt(n + 1)},
		{all + "p()", limitAt(n)},
		{all + "p() foo", limitAt(n)},
		{all + "p() ?", "word at " + strconv.Itoa(n+4)},
		{all + "p(", "form at " + strconv.Itoa(n+2)},
		{all + "p($x);", "free at " + strconv.Itoa(n)},
		{all + "p() <- q();", limitAt(n)},
		{all + "p() <- q() or", limitAt(n)},
		{all + "p() <- q(),;", "form at " + strconv.Itoa(n+11)},
		{all + "p($x) <- q();", "free at " + strconv.Itoa(n)},
		{all + "p() <- $x < 1;", "free at " + strconv.Itoa(n+7)},
		{all + "check if p();", limitAt(n)},
		{all + "check if p()", limitAt(n)},
		{all + "check if p() foo", limitAt(n)},
		{all + "check if p() or;", "form at " + strconv.Itoa(n+15)},
		{all + "check if $x < 1;", "free at " + strconv.Itoa(n+9)},
		{all + "check if p() or p() or p() or p() or p();", limitAt(n + 37)},
		{fact + "p();", limitAt(len(fact))},
		{rule + "p() <- q();", limitAt(len(rule))},
		{check + "check if p();", limitAt(len(check))},
	})
	policies := times(12, "allow if p(); deny if p(); ", "")
	n = len(policies)
	policiesRefused(t, []refusal{
		{policies + "deny if p();", limitAt(n)},
		{policies + "allow if p()", limitAt(n)},
		{policies + "allow if p() foo", limitAt(n)},
		{policies + "allow if p() ?", "word at " + strconv.Itoa(n+13)},
		{policies + "allow if $x < 1;", "free at " + strconv.Itoa(n+9)},
		{policies + "allow p();", "form at " + strconv.Itoa(n+6)},
		{"allow if p() or p() or p() or p() or p();", "limit at 37"},
	})
}

// A text that is too long is told so ahead of all else.
func TestTooLong(t *testing.T) {
	cases := []refusal{
		{strings.Repeat(" ", 8_001), "limit at 8000"},
		{strings.Repeat("?", 8_001), "limit at 8000"},
		{strings.Repeat("[", 100_000), "limit at 8000"},
	}
	refused(t, cases)
	policiesRefused(t, cases)
	refused(t, []refusal{{strings.Repeat("?", 8_000), "word at 0"}})
	policiesRefused(t, []refusal{{strings.Repeat(" ", 7_999) + "?", "word at 7999"}})
}
