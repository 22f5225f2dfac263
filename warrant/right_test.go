package warrant_test

import (
	"math/rand/v2"
	"slices"
	"strings"
	"testing"

	"warrant/plain"
	"warrant/warrant"
)

// judged is a block, and why it is refused.
type judged struct {
	block warrant.Block
	want  string
}

// judge asks Print, Encode, Mint and Attenuate, which refuse what P4 does, and, of a block without checks, Solve, which does so too; of a block without rules it asks Authorize, as of a request's facts and of policies.
func judge(t *testing.T, cases []judged) {
	t.Helper()
	first := token(t, 1)
	for i, c := range cases {
		printed, err := warrant.Print(c.block)
		if got := told(err); got != c.want || err != nil && printed != "" {
			t.Errorf("P4: case %d, %+v: Print tells %s %q, want %s", i, c.block, got, printed, c.want)
		}
		encoded, err := warrant.Encode(c.block)
		if got := told(err); got != c.want || err != nil && encoded != "" {
			t.Errorf("P4: case %d, %+v: Encode tells %s %q, want %s", i, c.block, got, encoded, c.want)
		}
		minted, err := warrant.Mint("key", c.block)
		if got := told(err); got != c.want || err != nil && minted != "" {
			t.Errorf("P13: case %d, %+v: Mint tells %s %q, want %s", i, c.block, got, minted, c.want)
		}
		narrowed, err := warrant.Attenuate(first, c.block)
		if got := told(err); got != c.want || err != nil && narrowed != "" {
			t.Errorf("P14: case %d, %+v: Attenuate tells %s %q, want %s", i, c.block, got, narrowed, c.want)
		}
		if len(c.block.Rules) == 0 {
			judgeAsked(t, c.block.Facts, policiesOf(c.block.Checks), c.want)
		}
		if len(c.block.Checks) > 0 {
			continue
		}
		following, err := warrant.Solve(c.block.Facts, c.block.Rules)
		if got := told(err); got != c.want || err != nil && len(following) > 0 {
			t.Errorf("P11: case %d, %+v: Solve tells %s %+v, want %s", i, c.block, got, following, c.want)
		}
	}
}

// judgeAsked asks Authorize, which refuses what P4 does of a request's facts, and then of policies, whatever the token is.
func judgeAsked(t *testing.T, facts []warrant.Atom, policies []warrant.Policy, want string) {
	t.Helper()
	for _, given := range []string{token(t, 1), ""} {
		v, err := warrant.Authorize("key", given, warrant.Request{Facts: facts}, policies)
		if got := told(err); got != want || (err == nil) != (v > 0) {
			t.Errorf("P16: facts %+v, policies %+v: Authorize tells %s %d, want %s", facts, policies, got, v, want)
		}
	}
}

// policiesOf has the bodies of checks, which P4 looks at alike.
func policiesOf(checks []warrant.Check) []warrant.Policy {
	var l []warrant.Policy
	for _, c := range checks {
		l = append(l, warrant.Policy{Either: c.Either})
	}
	return l
}

// judgeTerms asks of each term as one of a fact, of an atom of a check, and of both sides of a guard.
func judgeTerms(t *testing.T, want string, terms ...warrant.Term) {
	t.Helper()
	for _, x := range terms {
		judge(t, []judged{
			{facts(atom("p", x)), want},
			{facts(atom("p", number(1), text("a"), x)), want},
			{check(body(atoms(atom("p", x)))), want},
			{check(body(nil, guard(x, 1, number(1)))), want},
			{check(body(nil, guard(number(1), 1, x))), want},
			{rules(warrant.Rule{Head: atom("p", x), Body: atoms(atom("q"))}), want},
		})
	}
}

// same is a list of n times one thing.
func same[T any](n int, thing T) []T { return slices.Repeat([]T{thing}, n) }

func TestTermsRight(t *testing.T) {
	one := number(1)
	judgeTerms(t, "ok",
		number(0), one, number(-1<<63), number(1<<63-1), date(0), date(-1<<63), date(1<<63-1), truth(0), truth(1),
		text(""), text("é\x00\n\"\\"), text("\ufffd"), text("\U0010ffff"), text(strings.Repeat("s", 64)), text(strings.Repeat("é", 32)),
		raw(""), raw("\xff\x80"), raw(strings.Repeat("\xff", 64)),
		list(), warrant.Term{Kind: 7, List: []warrant.Term{}}, list(same(6, one)...), list(list(list())), list(list(list(one)), list(list(), one)),
		warrant.Term{Kind: 2, List: []warrant.Term{}}, warrant.Term{Kind: 3, List: []warrant.Term{}},
	)
}

func TestTermsOfNoForm(t *testing.T) {
	one := number(1)
	ones := []warrant.Term{one}
	judgeTerms(t, "form",
		warrant.Term{}, warrant.Term{Kind: 8}, warrant.Term{Kind: -1}, warrant.Term{Kind: 1<<8 + 2}, warrant.Term{Kind: 1<<32 + 2}, warrant.Term{Kind: -1 << 63},
		warrant.Term{Kind: 0, Text: "x"}, warrant.Term{Kind: 8, List: ones},
		warrant.Term{Kind: 1, Text: "x", Int: 1}, warrant.Term{Kind: 1, Text: "x", List: ones},
		warrant.Term{Kind: 2, Text: "x"}, warrant.Term{Kind: 2, List: ones}, warrant.Term{Kind: 2, Text: strings.Repeat("x", 65)}, warrant.Term{Kind: 2, List: same(7, one)},
		warrant.Term{Kind: 3, Int: 1}, warrant.Term{Kind: 3, Int: -1}, warrant.Term{Kind: 3, List: ones},
		warrant.Term{Kind: 4, Int: 1}, warrant.Term{Kind: 4, List: ones},
		warrant.Term{Kind: 5, Text: "x"}, warrant.Term{Kind: 5, List: ones},
		warrant.Term{Kind: 6, Text: "true"}, warrant.Term{Kind: 6, List: ones}, truth(2), truth(-1), truth(1<<8), truth(1<<32), truth(-1<<63),
		warrant.Term{Kind: 7, Int: 1}, warrant.Term{Kind: 7, Text: "x"}, warrant.Term{Kind: 7, Int: 1, List: ones}, warrant.Term{Kind: 7, Text: "x", List: ones},
		text("\xff"), text("a\xc3"), text("\xed\xa0\x80"), text("\xc0\x80"), text("\xf4\x90\x80\x80"),
		variable(""), variable("X"), variable("1"), variable("_x"), variable("x-"), variable("x "), variable("xé"), variable("é"), variable("x\xff"), variable("x\x00"), variable("xA"), variable("$x"), variable(strings.Repeat("x", 17)),
		variable("\u0178"), variable("x\u0178"), variable("x\u0161"), variable("\u0161"), // of which the lowest bits are those of a letter
		list(variable("x")), list(list(one, variable("x"))), list(one, warrant.Term{}), list(list(list(text("\xff")))), list(truth(2)),
	)
}

func TestTermsBeyondLimits(t *testing.T) {
	one := number(1)
	judgeTerms(t, "limit",
		text(strings.Repeat("s", 65)), text(strings.Repeat("é", 32)+"s"), text(strings.Repeat("s", 1_000)), raw(strings.Repeat("x", 65)), raw(strings.Repeat("\xff", 65)),
		list(same(7, one)...), list(one, list(same(7, one)...)), list(list(list(same(7, one)...))), list(raw(strings.Repeat("x", 65))),
	)
	judgeTerms(t, "deep",
		list(list(list(list()))), list(list(list(one, list(one)))), list(one, list(list(), list(list(), list()))),
	)
}

// Of a term the form is told ahead of limits, limits ahead of depth, all of them ahead of what is in a list.
func TestTermsInOrder(t *testing.T) {
	one, none := number(1), warrant.Term{}
	long := text(strings.Repeat("s", 65))
	odd := func(d warrant.Term) warrant.Term { return list(list(list(d))) }
	judgeTerms(t, "form",
		text(strings.Repeat("s", 64)+"\xff"), warrant.Term{Kind: 7, Int: 1, List: same(7, one)}, odd(warrant.Term{Kind: 7, Text: "x"}), odd(warrant.Term{Kind: 7, Int: 1, List: same(7, one)}),
		list(none, long), list(none, odd(list())), list(one, none, list(same(7, one)...)),
	)
	judgeTerms(t, "limit", list(same(7, none)...), odd(list(same(7, one)...)), odd(list(same(7, none)...)), list(long, none), list(list(same(7, none)...), none))
	judgeTerms(t, "deep", odd(list(none)), odd(list(long)), odd(list(list(none))), list(list(list(list()), none), long))
}

func TestAtomsRight(t *testing.T) {
	one, none := number(1), warrant.Term{}
	var cases []judged
	ask := func(want string, l ...warrant.Atom) {
		for _, a := range l {
			cases = append(cases, judged{facts(a), want}, judged{rules(warrant.Rule{Head: a, Body: atoms(atom("q"))}), want}, judged{rules(warrant.Rule{Head: atom("q"), Body: atoms(atom("q"), a)}), want}, judged{check(body(atoms(a))), want})
		}
	}
	ask("ok", atom("p"), atom("a"), atom("z"), atom("p0"), atom("p9"), atom("p_"), atom(strings.Repeat("p", 16)), atom("check"), atom("true"), atom("hex"), atom("p", same(6, one)...), warrant.Atom{Name: "p", Terms: []warrant.Term{}})
	ask("form", atom(""), atom("P"), atom("0"), atom("_"), atom("pP"), atom("p q"), atom("p\n"), atom("pé"), atom("\u0161"), atom("p\u0161"), atom("p\xff"), atom("p`"), atom("p{"), atom("`"), atom("{"), atom("p/"), atom("p:"), atom(strings.Repeat("p", 17)), atom(strings.Repeat("é", 16)), atom("P", same(7, one)...), atom("p", one, none))
	ask("limit", atom("p", same(7, one)...), atom("p", same(7, none)...), atom("p", list(same(7, one)...), none))
	ask("deep", atom("p", list(list(list(list()))), none))
	judge(t, cases)
}

func TestFactsRight(t *testing.T) {
	x, one := variable("x"), number(1)
	judge(t, []judged{
		{facts(atom("p", x)), "free"},
		{facts(atom("p", one, x)), "free"},
		{facts(atom("p", x, warrant.Term{})), "form"},
		{facts(atom("p", x, raw(strings.Repeat("x", 65)))), "limit"},
		{facts(atom("p", x, list(list(list(list()))))), "deep"},
		{facts(atom("p", x), atom("")), "free"},
		{facts(atom(""), atom("p", x)), "form"},
	})
}

func TestRulesRight(t *testing.T) {
	x, y, one := variable("x"), variable("y"), number(1)
	p, q, none := atom("p", x), atom("q", x), warrant.Atom{}
	fine := guard(one, 1, one)
	judge(t, []judged{
		{rules(warrant.Rule{Head: p, Body: atoms(q)}), "ok"},
		{rules(warrant.Rule{Head: atom("p", x, y, x), Body: atoms(q, atom("q", one, y))}), "ok"},
		{rules(warrant.Rule{Head: atom("p"), Guards: []warrant.Guard{fine}}), "ok"},
		{rules(warrant.Rule{Head: p, Body: same(4, q), Guards: same(4, fine)}), "ok"},
		{rules(warrant.Rule{}), "form"},
		{rules(warrant.Rule{Head: none, Body: atoms(q)}), "form"},
		{rules(warrant.Rule{Head: p}), "form"},
		{rules(warrant.Rule{Head: p, Body: []warrant.Atom{}, Guards: []warrant.Guard{}}), "form"},
		{rules(warrant.Rule{Head: atom("p", y), Body: atoms(q)}), "free"},
		{rules(warrant.Rule{Head: atom("p", x, y), Body: atoms(q)}), "free"},
		{rules(warrant.Rule{Head: p, Body: atoms(atom("q"))}), "free"},
		{rules(warrant.Rule{Head: p, Body: atoms(atom("q", text("x"), raw("x")))}), "free"},
		{rules(warrant.Rule{Head: p, Guards: []warrant.Guard{fine}}), "free"},
		{rules(warrant.Rule{Head: p, Body: atoms(q)}, warrant.Rule{Head: atom("p", y), Body: atoms(q)}), "free"},
		// in order: the head, that there is a body, the body, what the head has free
		{rules(warrant.Rule{Head: atom("p", same(7, x)...)}), "limit"},
		{rules(warrant.Rule{Head: atom("p", list(list(list(list()))))}), "deep"},
		{rules(warrant.Rule{Head: atom("p", warrant.Term{}), Body: same(5, q)}), "form"},
		{rules(warrant.Rule{Head: atom("p", y), Body: same(5, q)}), "limit"},
		{rules(warrant.Rule{Head: atom("p", y), Body: atoms(q, none)}), "form"},
		{rules(warrant.Rule{Head: atom("p", y), Body: atoms(q), Guards: []warrant.Guard{{}}}), "form"},
	})
}

func TestBodiesRight(t *testing.T) {
	x, y, one := variable("x"), variable("y"), number(1)
	q, none := atom("q", x), warrant.Atom{}
	fine := guard(one, 1, one)
	var cases []judged
	ask := func(want string, l ...warrant.Rule) {
		for _, r := range l {
			headed := warrant.Rule{Head: atom("p"), Body: r.Body, Guards: r.Guards}
			cases = append(cases, judged{check(r), want}, judged{check(body(atoms(q)), r), want}, judged{rules(headed), want})
		}
	}
	ask("ok", body(atoms(q)), body(nil, fine), body(same(4, q), same(4, fine)...), body(atoms(q), guard(x, 3, x)), body(atoms(atom("q", y), q), guard(x, 7, y)), body(atoms(atom("q", one, list(), x)), guard(list(one), 2, x)))
	for op := 1; op <= 7; op++ {
		ask("ok", body(nil, guard(one, op, text(""))))
	}
	for _, op := range []int{0, 8, -1, 1<<8 + 1, 1<<32 + 1, -1 << 63} {
		ask("form", body(nil, guard(one, op, one)), body(atoms(q), fine, guard(x, op, x)), body(atoms(q), guard(y, op, x)), body(nil, guard(text(strings.Repeat("s", 65)), op, one)))
	}
	ask("limit", body(same(5, q)), body(nil, same(5, fine)...), body(same(4, q), same(5, fine)...), body(same(5, none)), body(nil, make([]warrant.Guard, 5)...), body(atoms(none), same(5, fine)...), body(same(5, q), guard(one, 0, one)))
	ask("free", body(nil, guard(x, 1, one)), body(nil, guard(one, 1, x)), body(nil, guard(x, 1, x)), body(atoms(q), guard(x, 1, y)), body(atoms(q), guard(y, 1, x)), body(atoms(q), fine, guard(x, 1, one), guard(y, 1, one)), body(atoms(atom("q", text("x"))), guard(x, 1, one)))
	// in order: the atoms, then each guard: its Op, A, what A has free, B, what B has free
	ask("form", body(atoms(q, none), guard(y, 1, one)), body(atoms(q), guard(warrant.Term{}, 1, y)), body(nil, fine, guard(one, 0, one), guard(x, 1, x)), body(nil, guard(one, 1, warrant.Term{})))
	ask("free", body(nil, guard(x, 1, warrant.Term{})), body(nil, guard(x, 1, text(strings.Repeat("s", 65)))), body(nil, guard(x, 1, one), guard(one, 0, one)), body(nil, guard(one, 1, x), warrant.Guard{}))
	ask("limit", body(atoms(atom("q", same(7, x)...), none)), body(nil, guard(text(strings.Repeat("s", 65)), 1, x)))
	ask("deep", body(atoms(q), guard(list(list(list(list()))), 1, y)))
	judge(t, cases)
}

func TestChecksRight(t *testing.T) {
	x := variable("x")
	fine := body(atoms(atom("q", x)))
	headed := fine
	headed.Head = atom("p")
	termed := fine
	termed.Head.Terms = []warrant.Term{number(1)}
	hollow := fine
	hollow.Head.Terms = []warrant.Term{}
	for _, c := range []struct {
		bodies []warrant.Rule
		want   string
	}{
		{same(1, fine), "ok"}, {same(4, fine), "ok"}, {same(1, hollow), "ok"},
		{nil, "form"}, {[]warrant.Rule{}, "form"},
		{same(5, fine), "limit"}, {make([]warrant.Rule, 5), "limit"}, {same(5, headed), "limit"},
		{same(1, headed), "form"}, {same(1, termed), "form"}, {[]warrant.Rule{fine, headed}, "form"}, {[]warrant.Rule{{}}, "form"}, {[]warrant.Rule{fine, fine, fine, {}}, "form"},
		{[]warrant.Rule{{Head: atom("p"), Body: same(5, atom("q"))}}, "form"},
		{[]warrant.Rule{body(nil, guard(x, 1, x)), headed}, "free"}, {[]warrant.Rule{headed, body(nil, guard(x, 1, x))}, "form"},
		{[]warrant.Rule{fine, body(nil, guard(x, 1, x))}, "free"},
	} {
		judge(t, []judged{{check(c.bodies...), c.want}})
		for _, allow := range []bool{false, true} {
			judgeAsked(t, nil, []warrant.Policy{{Allow: allow, Either: c.bodies}}, c.want)
		}
	}
}

func TestPoliciesRight(t *testing.T) {
	fine := warrant.Policy{Either: []warrant.Rule{body(atoms(atom("q")))}}
	for _, c := range []struct {
		policies []warrant.Policy
		want     string
	}{
		{nil, "ok"}, {same(24, fine), "ok"}, {same(25, fine), "limit"}, {make([]warrant.Policy, 25), "limit"},
		{make([]warrant.Policy, 24), "form"}, {append(same(23, fine), warrant.Policy{}), "form"},
		{[]warrant.Policy{fine, {Either: make([]warrant.Rule, 5)}, {}}, "limit"},
	} {
		judgeAsked(t, nil, c.policies, c.want)
	}
}

func TestBlocksRight(t *testing.T) {
	x := variable("x")
	q := atom("q")
	rule := warrant.Rule{Head: q, Body: atoms(q)}
	fine := warrant.Check{Either: []warrant.Rule{body(atoms(q))}}
	judge(t, []judged{
		{warrant.Block{}, "ok"},
		{warrant.Block{Facts: []warrant.Atom{}, Rules: []warrant.Rule{}, Checks: []warrant.Check{}}, "ok"},
		{warrant.Block{Facts: same(24, q), Rules: same(24, rule), Checks: same(24, fine)}, "ok"},
		{warrant.Block{Facts: same(25, q)}, "limit"},
		{warrant.Block{Rules: same(25, rule)}, "limit"},
		{warrant.Block{Checks: same(25, fine)}, "limit"},
		{warrant.Block{Facts: make([]warrant.Atom, 25)}, "limit"},
		{warrant.Block{Facts: make([]warrant.Atom, 24)}, "form"},
		{warrant.Block{Rules: make([]warrant.Rule, 25)}, "limit"},
		{warrant.Block{Rules: make([]warrant.Rule, 24)}, "form"},
		{warrant.Block{Checks: make([]warrant.Check, 25)}, "limit"},
		{warrant.Block{Checks: make([]warrant.Check, 24)}, "form"},
		{warrant.Block{Facts: append(same(23, q), atom("q", x))}, "free"},
		{warrant.Block{Rules: append(same(23, rule), warrant.Rule{Head: atom("q", x), Body: atoms(q)})}, "free"},
		{warrant.Block{Checks: append(same(23, fine), warrant.Check{})}, "form"},
		// in order: facts, rules, checks; of each how many there are
		{warrant.Block{Facts: atoms(atom("q", x)), Rules: make([]warrant.Rule, 25)}, "free"},
		{warrant.Block{Facts: same(25, q), Rules: make([]warrant.Rule, 1)}, "limit"},
		{warrant.Block{Rules: make([]warrant.Rule, 1), Checks: make([]warrant.Check, 25)}, "form"},
		{warrant.Block{Facts: same(1, q), Rules: same(25, rule), Checks: make([]warrant.Check, 1)}, "limit"},
		{warrant.Block{Facts: atoms(atom("q", x)), Checks: make([]warrant.Check, 1)}, "free"},
	})
}

// Lists may come in far deeper than they may be.
func TestDeepLists(t *testing.T) {
	deep := list()
	for range 99_999 {
		deep = list(deep)
	}
	judgeTerms(t, "deep", deep)
	judgeTerms(t, "form", warrant.Term{Kind: 2, List: deep.List}, list(warrant.Term{Kind: 8, List: deep.List}))
	if got, reason := plain.Print(facts(atom("p", deep))); got != "" || reason != 3 {
		t.Errorf("P4: by plain: %q, %d", got, reason)
	}
}

// spoilTerm gives a term some other field.
func spoilTerm(r *rand.Rand, t *warrant.Term) {
	switch r.IntN(4) {
	case 0:
		t.Kind = r.IntN(10) - 1
	case 1:
		t.Int = randomInt(r)
	case 2:
		t.Text = []string{"x", "X", "\xff", strings.Repeat("s", 65)}[r.IntN(4)]
	default:
		t.List = several(r, 8, func(r *rand.Rand) warrant.Term { return randomValue(r, 0) })
	}
}

func spoilRule(r *rand.Rand, rule *warrant.Rule) {
	switch r.IntN(4) {
	case 0:
		rule.Head = randomAtom(r, "x", "z")
	case 1:
		rule.Body = several(r, 6, func(r *rand.Rand) warrant.Atom { return randomAtom(r, "x", "z") })
	case 2:
		rule.Guards = several(r, 6, func(r *rand.Rand) warrant.Guard { return guard(randomTerm(r, "x"), r.IntN(10)-1, randomTerm(r, "z")) })
	default:
		rule.Head.Name = ""
	}
}

// Whatever a block is, Print, Encode, Solve and Authorize tell the same of it, and bytes come only of what is right.
func TestSpoiltBlocks(t *testing.T) {
	r := rand.New(rand.NewPCG(9, 10))
	for range 5_000 {
		b := randomBlock(r)
		for i := range b.Facts {
			for j := range b.Facts[i].Terms {
				if r.IntN(8) == 0 {
					spoilTerm(r, &b.Facts[i].Terms[j])
				}
			}
		}
		for i := range b.Rules {
			if r.IntN(4) == 0 {
				spoilRule(r, &b.Rules[i])
			}
		}
		_, err := warrant.Print(b)
		encoded, other := warrant.Encode(b)
		if told(err) != told(other) && (err != nil || told(other) != "limit") {
			t.Fatalf("P4: %+v: Print tells %s, Encode %s", b, told(err), told(other))
		}
		if other == nil {
			hasOneForm(t, encoded)
		}
		b.Checks = nil
		_, err = warrant.Print(b)
		if _, other := warrant.Solve(b.Facts, b.Rules); told(err) != told(other) {
			t.Fatalf("P11: %+v: Print tells %s, Solve %s", b, told(err), told(other))
		}
		b.Rules = nil
		_, err = warrant.Print(b)
		judgeAsked(t, b.Facts, nil, told(err))
	}
}
