package warrant_test

import (
	"fmt"
	"slices"
	"strings"
	"testing"

	"warrant/plain"
	"warrant/warrant"
)

// parsed is the block that a text says.
func parsed(t *testing.T, source string) warrant.Block {
	t.Helper()
	b, err := warrant.Parse(source)
	if err != nil {
		t.Fatalf("%s: %s", source, told(err))
	}
	return b
}

// written tells facts as Print does, all in one line.
func written(t *testing.T, l []warrant.Atom) string {
	t.Helper()
	var lines []string
	for _, a := range l {
		line, err := warrant.Print(facts(a))
		if err != nil {
			t.Fatalf("P11: %+v is no fact: %s", a, told(err))
		}
		lines = append(lines, strings.TrimSpace(line))
	}
	return strings.Join(lines, " ")
}

// solved tells what follows from a block, or why it is refused.
func solved(t *testing.T, b warrant.Block) string {
	t.Helper()
	l, err := warrant.Solve(b.Facts, b.Rules)
	if err != nil && len(l) > 0 {
		t.Errorf("P1: %+v beside an error", l)
	}
	if err != nil {
		return told(err)
	}
	return written(t, l)
}

// solve asks of texts, by the program itself and by plain.
func solve(t *testing.T, cases [][2]string) {
	t.Helper()
	for _, c := range cases {
		b := parsed(t, c[0])
		if got := solved(t, b); got != c[1] {
			t.Errorf("P11: %s: %s, want %s", c[0], got, c[1])
		}
		l, reason := plain.Solve(b.Facts, b.Rules)
		if got := written(t, l); reason == 0 && got != c[1] || reason != 0 && (reason != 4 || c[1] != "limit") {
			t.Errorf("P11: %s, by plain: %d %s, want %s", c[0], reason, got, c[1])
		}
	}
}

func TestFactsAlone(t *testing.T) {
	solve(t, [][2]string{
		{"", ""},
		{"p();", "p();"},
		{"p(); p(); p(1); p(); p(1);", "p(); p(1);"},
		{"p([1, [2]]); p([1, [2]]); p([1, [3]]); p([1, 2]);", "p([1, 2]); p([1, [2]]); p([1, [3]]);"},
		{`p(97); p(@97); p("a"); p(hex:61); p(true); p([97]); p($x) <- p($x);`, `p(97); p("a"); p(hex:61); p(@97); p(true); p([97]);`},
		{times(24, "p();", " "), "p();"},
	})
	empty := list()
	empty.List = []warrant.Term{}
	if got := solved(t, facts(atom("p", list()), atom("p", empty))); got != "p([]);" {
		t.Errorf("P11: a nil list and an empty one: %s", got)
	}
}

// Rising by bytes: first by how long the name is, then by the name, by how many terms, by the terms.
func TestOrder(t *testing.T) {
	solve(t, [][2]string{
		{"z(); aa(); b(); ab(); a();", "a(); b(); z(); aa(); ab();"},
		{"p(1, 1); p(2); p(); p(1); p(0, 9);", "p(); p(1); p(2); p(0, 9); p(1, 1);"},
		{"p(2); p(-2); p(1); p(-1); p(0);", "p(0); p(-1); p(1); p(-2); p(2);"},
		{"p(64); p(63); p(-64); p(128); p(8192); p(65);", "p(63); p(-64); p(64); p(128); p(8192); p(65);"},
		{`p("b"); p("aa"); p("a"); p(""); p("é"); p("zz");`, `p(""); p("a"); p("b"); p("aa"); p("zz"); p("é");`},
		{`p([]); p(false); p(true); p(@0); p(hex:); p(""); p(0); p(9223372036854775807);`, `p(0); p(9223372036854775807); p(""); p(hex:); p(@0); p(false); p(true); p([]);`},
		{"p([1, 1]); p([2]); p([[]]); p([]);", "p([]); p([2]); p([[]]); p([1, 1]);"},
		{"q(2); p($x) <- q($x); a(1) <- q(2);", "a(1); p(2); q(2);"},
	})
}

func TestFollows(t *testing.T) {
	solve(t, [][2]string{
		{"edge(1, 2); edge(2, 3); edge($x, $z) <- edge($x, $y), edge($y, $z);", "edge(1, 2); edge(1, 3); edge(2, 3);"},
		{`right("a"); may($x) <- right($x), $x != "b";`, `may("a"); right("a");`},
		{`right("b"); may($x) <- right($x), $x != "b";`, `right("b");`},
		{"q($x) <- p($x);", ""},
		{"p(1); p(1, 2); q($x) <- p($x);", "p(1); p(1, 2); q(1);"},
		{"p(1); q() <- p();", "p(1);"},
		{"p(); q() <- p();", "p(); q();"},
		{"pp(1); q($x) <- p($x);", "pp(1);"},
		{"p(1, 1); p(1, 2); same($x) <- p($x, $x);", "p(1, 1); p(1, 2); same(1);"},
		{"p(1); q($x, 7, $x, [1]) <- p($x);", "p(1); q(1, 7, 1, [1]);"},
		{"p(1); p(2); q(3) <- p(2);", "p(1); p(2); q(3);"},
		{"p(1); q(3) <- p(2);", "p(1);"},
		{"p(1); q(3) <- p(@1);", "p(1);"},
		{"p([1, 2]); q() <- p([1, 2]); r() <- p([2, 1]); s() <- p([]);", "p([1, 2]); q();"},
		{"p([1, [2]], 3); q($x, $y) <- p($y, $x);", "p([1, [2]], 3); q(3, [1, [2]]);"},
		{"p(1, 2); p(2, 3); q(3, 4); r($a, $d) <- p($a, $b), p($b, $c), q($c, $d);", "p(1, 2); p(2, 3); q(3, 4); r(1, 4);"},
		{"p(1, 2); p(2, 3); q(4, 4); r($a, $d) <- p($a, $b), p($b, $c), q($c, $d);", "p(1, 2); p(2, 3); q(4, 4);"},
		{"a(1, 2); b(2, 3); c(3, 4); d(4, 1); ring($w) <- a($w, $x), b($x, $y), c($y, $z), d($z, $w);", "a(1, 2); b(2, 3); c(3, 4); d(4, 1); ring(1);"},
		{"a(1, 2); b(2, 3); c(3, 4); d(4, 5); ring($w) <- a($w, $x), b($x, $y), c($y, $z), d($z, $w);", "a(1, 2); b(2, 3); c(3, 4); d(4, 5);"},
		{"p(1); p(2); q(2); q(3); both($x) <- p($x), q($x);", "p(1); p(2); q(2); q(3); both(2);"},
		{"p(1); p(2); q($y, $x) <- p($x), p($y);", "p(1); p(2); q(1, 1); q(1, 2); q(2, 1); q(2, 2);"},
		{"p(1); p(2); p(3); q() <- p($x), p($y), $x != $y;", "p(1); p(2); p(3); q();"},
		{"p(1); q() <- p($x), p($y), $x != $y;", "p(1);"},
		{"p(1); q($x) <- p($x); p(2) <- q(1); r($x, $y) <- q($x), p($y);", "p(1); p(2); q(1); q(2); r(1, 1); r(1, 2); r(2, 1); r(2, 2);"},
		{"q() <- 1 < 2; r() <- 2 < 1; s() <- 1 < 2, 2 < 1; t() <- 1 < 2, 3 > 2;", "q(); t();"},
		{"p(1); q() <- p(1), 2 < 1; r() <- p(1), 1 < 2;", "p(1); r();"},
		{"q() <- p($x), 1 < 2;", ""},
		{"time(@5); late() <- time($t), $t > @4;", "late(); time(@5);"},
		{"p(1, 2, 3, 4, 5, 6); q($f, $e, $d, $c, $b, $a) <- p($a, $b, $c, $d, $e, $f);", "p(1, 2, 3, 4, 5, 6); q(6, 5, 4, 3, 2, 1);"},
	})
}

// Variables are each rule's own, and what one rule bound is free in the next way.
func TestVariablesAreFreed(t *testing.T) {
	solve(t, [][2]string{
		{"p(1); q(2); r($x) <- p($x); s($x) <- q($x);", "p(1); q(2); r(1); s(2);"},
		{"p(1, 2); p(3, 4); q(4); r($x) <- p($x, $y), q($y);", "p(1, 2); p(3, 4); q(4); r(3);"},
		{"p(1, 1, 2); p(3, 4, 4); p(5, 5, 5); q($x) <- p($x, $x, $x);", "p(1, 1, 2); p(3, 4, 4); p(5, 5, 5); q(5);"},
		{"p(1); p(2); q(1, 2); q(2, 1); r($x, $y) <- p($x), q($x, $y), p($y), $x < $y;", "p(1); p(2); q(1, 2); q(2, 1); r(1, 2);"},
	})
}

// chain is as many links as told, of which one follows each round.
func chain(links int) string {
	source := "at(0); at($y) <- at($x), next($x, $y);"
	for i := range links {
		source += fmt.Sprintf(" next(%d, %d);", i, i+1)
	}
	return source
}

// steps is a rule for each link, in the order in which they follow: a round that lets heads join too early would go along all of it.
func steps(links int) string {
	source := "at(0);"
	for i := range links {
		source += fmt.Sprintf(" at(%d) <- at(%d);", i+1, i)
	}
	return source
}

func TestRounds(t *testing.T) {
	for _, source := range []func(int) string{chain, steps} {
		for links := range 16 {
			b := parsed(t, source(links))
			want := fmt.Sprint(len(b.Facts)+links, " ok")
			if links > 12 {
				want = "0 limit"
			}
			l, err := warrant.Solve(b.Facts, b.Rules)
			if got := fmt.Sprint(len(l), " ", told(err)); got != want {
				t.Errorf("P11: %s: %s, want %s", source(links), got, want)
			}
		}
	}
	// A thirteenth round that brings only what is known brings nothing new.
	all := "at(0); at(1); at(2); at(3); at(4); at(5); at(6); at(7); at(8); at(9); at(10); at(11); at(12);"
	solve(t, [][2]string{
		{steps(12) + " at(0) <- at(12); at(5) <- at(12); at(12) <- at(12);", all},
		{steps(12) + " end() <- at(12);", "limit"},
		{steps(12) + " end() <- at(11);", all + " end();"},
		{"at(12) <- at(11);" + steps(11), all},
	})
}

// numbered is facts n(0), n(1), ..
func numbered(count int) string {
	source := ""
	for i := range count {
		source += fmt.Sprintf("n(%d); ", i)
	}
	return source
}

func TestHowManyFacts(t *testing.T) {
	pairs := "pair($x, $y) <- n($x), n($y);"
	for _, c := range []struct{ source, want string }{
		{numbered(24), "24 ok"},
		{numbered(7) + pairs, "56 ok"},
		{numbered(7) + pairs + times(4, "p(%d);", " "), "60 ok"},
		{numbered(7) + pairs + times(5, "p(%d);", " "), "0 limit"},
		{numbered(7) + pairs + times(4, "p(%d);", " ") + " p(0) <- p(1); n($x) <- pair($x, $y);", "60 ok"},
		{numbered(7) + pairs + times(4, "p(%d);", " ") + " last() <- pair(6, 6);", "0 limit"},
		{numbered(7) + pairs + times(3, "p(%d);", " ") + " last() <- pair(6, 6);", "60 ok"},
		{numbered(7) + pairs + times(4, "last(%d) <- pair(6, 6);", " "), "60 ok"},
		{numbered(7) + pairs + times(5, "last(%d) <- pair(6, 6);", " "), "0 limit"},
		{numbered(7) + pairs + times(4, "q(%d) <- 1 < 2;", " "), "60 ok"},
		{numbered(7) + pairs + times(5, "q(%d) <- 1 < 2;", " "), "0 limit"},
		{numbered(8) + pairs, "0 limit"},
		{numbered(24) + pairs, "0 limit"},
		{numbered(24) + "four($a, $b, $c, $d) <- n($a), n($b), n($c), n($d);", "0 limit"},
		{numbered(24) + times(12, "m(%d) <- n(1); k(%d) <- n(2);", " "), "48 ok"},
		{numbered(10) + "pair($x, $y) <- n($x), n($y), $x < $y;", "55 ok"},
		{numbered(11) + "pair($x, $y) <- n($x), n($y), $x < $y;", "0 limit"},
	} {
		source := c.source
		for i := 0; strings.Contains(source, "%d"); i++ {
			source = strings.Replace(source, "%d", fmt.Sprint(i), 1)
		}
		b := parsed(t, source)
		l, err := warrant.Solve(b.Facts, b.Rules)
		if got := fmt.Sprint(len(l), " ", told(err)); got != c.want {
			t.Errorf("P11: %s: %s, want %s", source, got, c.want)
		}
	}
}

// values are some of each kind, the edges of their numbers and texts among them.
func values() []warrant.Term {
	long := strings.Repeat("s", 64)
	l := []warrant.Term{
		text("file/a"), text("file/"), text("é"), raw("\xc3"), raw("\xc3\xa9"), truth(0), truth(1),
		list(), list(number(1)), list(number(1), number(2)), list(date(1)), list(list(number(1))), list(text("")), list(raw("")),
	}
	for _, n := range []int64{-1 << 63, -1, 0, 1, 2, 1<<63 - 1} {
		l = append(l, number(n), date(n))
	}
	for _, s := range []string{"", "a", "ab", "b", long, long[:63]} {
		l = append(l, text(s), raw(s))
	}
	return l
}

// alike: values of one kind, as the document's guards group them.
func alike(a, b warrant.Term, kinds ...int) bool {
	return a.Kind == b.Kind && slices.Contains(kinds, a.Kind)
}

// guardHolds says P10's words again.
func guardHolds(a warrant.Term, op int, b warrant.Term) bool {
	isSame := fmt.Sprintf("%#v", a) == fmt.Sprintf("%#v", b)
	switch op {
	case 1:
		return isSame
	case 2:
		return a.Kind == b.Kind && !isSame
	case 3:
		return alike(a, b, 2, 5) && a.Int < b.Int
	case 4:
		return alike(a, b, 2, 5) && (a.Int < b.Int || isSame)
	case 5:
		return alike(a, b, 2, 5) && a.Int > b.Int
	case 6:
		return alike(a, b, 2, 5) && (a.Int > b.Int || isSame)
	}
	return alike(a, b, 3, 4) && len(a.Text) >= len(b.Text) && a.Text[:len(b.Text)] == b.Text
}

// Each guard on each two kinds of values: written out, bound by one atom, by two, by one that stands behind.
func TestGuards(t *testing.T) {
	x, y, head := variable("x"), variable("y"), atom("holds")
	for _, a := range values() {
		for _, b := range values() {
			l := atoms(atom("p", a), atom("q", b), atom("r", a, b))
			for op := 1; op <= 7; op++ {
				want := guardHolds(a, op, b)
				for i, rule := range []warrant.Rule{
					{Head: head, Guards: []warrant.Guard{guard(a, op, b)}},
					{Head: head, Body: atoms(atom("p", x)), Guards: []warrant.Guard{guard(x, op, b)}},
					{Head: head, Body: atoms(atom("q", y)), Guards: []warrant.Guard{guard(a, op, y)}},
					{Head: head, Body: atoms(atom("r", x, y)), Guards: []warrant.Guard{guard(x, op, y)}},
					{Head: head, Body: atoms(atom("p", x), atom("q", y)), Guards: []warrant.Guard{guard(x, op, y)}},
					{Head: head, Body: atoms(atom("q", y), atom("p", x)), Guards: []warrant.Guard{guard(x, op, y)}},
				} {
					got, err := warrant.Solve(l, []warrant.Rule{rule})
					holds := slices.ContainsFunc(got, func(a warrant.Atom) bool { return a.Name == "holds" })
					if err != nil || holds != want {
						t.Fatalf("P10: %+v, guard %d, %+v, form %d: %s %v, want %v", a, op, b, i, told(err), holds, want)
					}
				}
			}
		}
	}
}

// Of each two values the marks that hold between them.
func TestGuardsTold(t *testing.T) {
	for _, c := range [][3]string{
		{"1", "2", "!= < <="}, {"2", "1", "!= > >="}, {"1", "1", "== <= >="}, {"-1", "1", "!= < <="}, {"-9223372036854775808", "9223372036854775807", "!= < <="},
		{"@1", "@2", "!= < <="}, {"@2", "@1", "!= > >="}, {"@-1", "@-1", "== <= >="},
		{"1", "@1", ""}, {"@1", "2", ""}, {"1", `"1"`, ""}, {"1", "true", ""}, {"0", "false", ""}, {"1", "[1]", ""}, {`"a"`, "hex:61", ""}, {"hex:61", `"a"`, ""}, {`""`, "hex:", ""}, {`""`, "[]", ""},
		{`"a"`, `"b"`, "!="}, {`"ab"`, `"a"`, "!= ^="}, {`"a"`, `"ab"`, "!="}, {`"a"`, `"a"`, "== ^="}, {`"a"`, `""`, "!= ^="}, {`""`, `""`, "== ^="}, {`"ab"`, `"b"`, "!="}, {`"é"`, `"e"`, "!="},
		{"hex:6162", "hex:61", "!= ^="}, {"hex:61", "hex:6162", "!="}, {"hex:61", "hex:61", "== ^="}, {"hex:", "hex:", "== ^="}, {"hex:00", "hex:", "!= ^="},
		{"true", "true", "=="}, {"true", "false", "!="}, {"false", "false", "=="},
		{"[]", "[]", "=="}, {"[1]", "[1]", "=="}, {"[1, 2]", "[1]", "!="}, {"[1]", "[@1]", "!="}, {"[[1]]", "[[1]]", "=="}, {"[[1]]", "[1]", "!="}, {"[1, 2]", "[2, 1]", "!="},
	} {
		var holding []string
		for _, mark := range []string{"==", "!=", "<", "<=", ">", ">=", "^="} {
			if solved(t, parsed(t, fmt.Sprintf("ok() <- %s %s %s;", c[0], mark, c[1]))) == "ok();" {
				holding = append(holding, mark)
			}
		}
		if got := strings.Join(holding, " "); got != c[2] {
			t.Errorf("P10: %s and %s: %s hold, want %s", c[0], c[1], got, c[2])
		}
	}
}

func TestGuardsTogether(t *testing.T) {
	solve(t, [][2]string{
		{"p(1); p(2); p(3); p(4); q($x) <- p($x), $x > 1, $x < 4;", "p(1); p(2); p(3); p(4); q(2); q(3);"},
		{"p(1); p(2); p(3); q($x) <- p($x), $x > 1, $x < 4, $x != 2, $x >= 3;", "p(1); p(2); p(3); q(3);"},
		{"p(1); p(2); p(3); q($x) <- p($x), $x > 1, $x < 4, $x != 2, $x >= 4;", "p(1); p(2); p(3);"},
		{"p(1); p(2); p(3); q($x, $z) <- p($x), p($y), p($z), $x < $y, $y < $z;", "p(1); p(2); p(3); q(1, 3);"},
		{"p(1); p(2); p(3); q() <- p($x), p($y), p($z), $x < $y, $y < $z, $z < $x;", "p(1); p(2); p(3);"},
		{"p(1); p(2); p(3); q() <- p($w), p($x), p($y), p($z), $w != $x, $x != $y, $y != $z, $z != $w;", "p(1); p(2); p(3); q();"},
		{"p(1); q() <- p($x), $x != $x; r() <- p($x), $x == $x;", "p(1); r();"},
		{`p("file/a", "file/"); p("dir", "file/"); q($x) <- p($x, $y), $x ^= $y;`, `p("dir", "file/"); p("file/a", "file/"); q("file/a");`},
	})
}

// What P4 refuses, in its order, and ahead of what is exceeded.
func TestSolveRefused(t *testing.T) {
	one, x := number(1), variable("x")
	p, q := atom("p", one), atom("q")
	rule := warrant.Rule{Head: q, Body: atoms(q)}
	free := warrant.Rule{Head: atom("p", x), Body: atoms(q)}
	empty := warrant.Rule{Head: q}
	var many []warrant.Atom
	for i := range 24 {
		many = append(many, atom("n", number(int64(i))))
	}
	grows := warrant.Rule{Head: atom("m", x, variable("y")), Body: atoms(atom("n", x), atom("n", variable("y")))}
	for i, c := range []struct {
		facts []warrant.Atom
		rules []warrant.Rule
		want  string
	}{
		{atoms(atom("p", x)), nil, "free"},
		{atoms(atom("P")), nil, "form"},
		{atoms(atom("")), nil, "form"},
		{atoms(atom("p", warrant.Term{})), nil, "form"},
		{atoms(atom("p", text("\xff"))), nil, "form"},
		{atoms(atom("p", text(strings.Repeat("s", 65)))), nil, "limit"},
		{atoms(atom("p", same(7, one)...)), nil, "limit"},
		{atoms(atom("p", list(list(list(list()))))), nil, "deep"},
		{same(25, p), nil, "limit"},
		{same(25, atom("p", x)), nil, "limit"},
		{atoms(p, atom("p", x), atom("P")), nil, "free"},
		{atoms(p, atom("P"), atom("p", x)), nil, "form"},
		{nil, []warrant.Rule{empty}, "form"},
		{nil, []warrant.Rule{free}, "free"},
		{nil, same(25, rule), "limit"},
		{nil, same(25, empty), "limit"},
		{nil, []warrant.Rule{rule, free, empty}, "free"},
		{nil, []warrant.Rule{rule, empty, free}, "form"},
		{nil, []warrant.Rule{{Head: q, Guards: []warrant.Guard{guard(x, 1, one)}}}, "free"},
		{nil, []warrant.Rule{{Head: q, Guards: []warrant.Guard{guard(one, 0, one)}}}, "form"},
		{nil, []warrant.Rule{{Head: q, Guards: []warrant.Guard{guard(one, 8, one)}}}, "form"},
		{nil, []warrant.Rule{{Head: q, Body: same(5, q)}}, "limit"},
		{nil, []warrant.Rule{{Body: atoms(q)}}, "form"},
		{atoms(atom("p", x)), []warrant.Rule{empty}, "free"},
		{atoms(atom("p", x)), same(25, rule), "free"},
		{atoms(atom("P")), same(25, rule), "form"},
		{many, []warrant.Rule{grows}, "limit"},
		{many, []warrant.Rule{grows, free}, "free"},
		{many, []warrant.Rule{grows, empty}, "form"},
	} {
		l, err := warrant.Solve(c.facts, c.rules)
		if got := told(err); got != c.want || len(l) > 0 {
			t.Errorf("P11: case %d: %s %+v, want %s", i, got, l, c.want)
		}
		if l, reason := plain.Solve(c.facts, c.rules); reason == 0 || len(l) > 0 {
			t.Errorf("P11: case %d, by plain: %d %+v", i, reason, l)
		}
	}
}

// A name that Parse keeps is one nonetheless (P4).
func TestSolveKeptNames(t *testing.T) {
	x := variable("x")
	got := solved(t, warrant.Block{Facts: atoms(atom("check", number(1))), Rules: []warrant.Rule{{Head: atom("or", x), Body: atoms(atom("check", x))}}})
	if want := "or(1); check(1);"; got != want {
		t.Errorf("P11: %s, want %s", got, want)
	}
}

// The greatest facts that may be: longer than a block's bytes may be, which Solve does not ask for.
func TestSolveGreatest(t *testing.T) {
	deep := text(strings.Repeat("s", 64))
	for range 3 {
		deep = list(same(6, deep)...)
	}
	var l []warrant.Atom
	for i := range 23 {
		l = append(l, atom("p", append(same(5, deep), number(int64(i)))...))
	}
	v, w := variable("v"), variable("w")
	all := atom("p", v, v, v, v, v, w)
	r := []warrant.Rule{{Head: atom("q", v, v, v, v, v, v), Body: same(4, all)}, {Head: atom("r", w, deep), Body: atoms(all, all), Guards: []warrant.Guard{guard(v, 1, deep), guard(v, 2, list())}}}
	got, err := warrant.Solve(l, r)
	if err != nil || len(got) != 23+1+23 {
		t.Fatalf("P11: %s, %d facts", told(err), len(got))
	}
	for _, a := range got {
		if a.Name == "q" && fmt.Sprint(a) != fmt.Sprint(atom("q", same(6, deep)...)) {
			t.Errorf("P11: %+v", a)
		}
	}
}

// Bodies with very many ways, of which none, or each, leads to the same head: they end soon.
func TestManyWays(t *testing.T) {
	start := numbered(7) + "p($x, $y, 1, $y) <- n($x), n($y); "
	four := "p($a, $e, $i, $j), p($b, $f, $k, $l), p($c, $g, $m, $n), p($d, $h, $o, $p)"
	for _, rule := range []string{
		"q() <- " + four + ";",
		"q() <- " + four + ", $d > 99;",
		"q() <- " + four + ", $a != $b, $b != $c, $c != $d, $d ^= $a;",
		"q() <- " + four + ", $a <= $d, $b <= $c, $d < $b, $c < $a;",
		"q($i, $k, $m, $o) <- " + four + ";",
		"q($o, $m, $k, $i) <- " + four + ", $a != $b, $b != $c, $c != $d, $d != $a;",
		"q($x) <- p($a, $b, $x, $c), p($d, $e, $x, $f), p($g, $h, $x, $i), p($j, $k, $x, $l), $a != $d, $d != $g, $g != $j, $j != $a;",
	} {
		b := parsed(t, start+times(23, rule, " "))
		if l, err := warrant.Solve(b.Facts, b.Rules); err != nil || len(l) != 56 && len(l) != 57 {
			t.Errorf("P11: %s: %s, %d facts", rule, told(err), len(l))
		}
	}
}
