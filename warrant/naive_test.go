package warrant_test

import (
	"fmt"
	"maps"
	"math/rand/v2"
	"slices"
	"strings"
	"testing"

	"warrant/warrant"
)

// naive says P10 and P11 again, without a care for how long it takes. It tells facts by their bytes.
type naive map[string]warrant.Atom

func bytesOf(a warrant.Atom) string {
	encoded, err := warrant.Encode(facts(a))
	if err != nil {
		panic(told(err))
	}
	return encoded
}

func naiveOf(l []warrant.Atom) naive {
	n := naive{}
	for _, a := range l {
		n[bytesOf(a)] = a
	}
	return n
}

// replaced is terms with what their variables stand for.
func replaced(terms []warrant.Term, bound map[string]warrant.Term) []warrant.Term {
	var l []warrant.Term
	for _, x := range terms {
		if x.Kind == 1 {
			x = bound[x.Text]
		}
		l = append(l, x)
	}
	return l
}

// matched is bound, and what makes an atom the fact besides: nil, if nothing does.
func matched(pattern, fact warrant.Atom, bound map[string]warrant.Term) map[string]warrant.Term {
	if pattern.Name != fact.Name || len(pattern.Terms) != len(fact.Terms) {
		return nil
	}
	bound = maps.Clone(bound)
	for i, x := range pattern.Terms {
		if _, known := bound[x.Text]; x.Kind == 1 && !known {
			bound[x.Text] = fact.Terms[i]
		}
	}
	if bytesOf(atom("p", replaced(pattern.Terms, bound)...)) != bytesOf(atom("p", fact.Terms...)) {
		return nil
	}
	return bound
}

func (n naive) walk(atoms []warrant.Atom, bound map[string]warrant.Term, tell func(map[string]warrant.Term)) {
	if len(atoms) == 0 {
		tell(bound)
		return
	}
	for _, fact := range n {
		if more := matched(atoms[0], fact, bound); more != nil {
			n.walk(atoms[1:], more, tell)
		}
	}
}

// round tells what the heads of all rules are.
func (n naive) round(rules []warrant.Rule) naive {
	heads := naive{}
	for _, rule := range rules {
		n.walk(rule.Body, map[string]warrant.Term{}, func(bound map[string]warrant.Term) {
			for _, g := range rule.Guards {
				sides := replaced([]warrant.Term{g.A, g.B}, bound)
				if !guardHolds(sides[0], g.Op, sides[1]) {
					return
				}
			}
			head := atom(rule.Head.Name, replaced(rule.Head.Terms, bound)...)
			heads[bytesOf(head)] = head
		})
	}
	return heads
}

// close tells how many rounds brought something; more than twelve, or more than 60 facts, are exceeded.
func (n naive) close(rules []warrant.Rule) (rounds int) {
	for {
		size := len(n)
		maps.Copy(n, n.round(rules))
		if len(n) == size {
			return rounds
		}
		rounds++
		if len(n) > 60 || rounds > 12 {
			return rounds
		}
	}
}

// few is one of some things.
func few[T any](r *rand.Rand, things ...T) T { return things[r.IntN(len(things))] }

// fewTerm is one of so few that they meet often.
func fewTerm(r *rand.Rand, names []string) warrant.Term {
	switch {
	case len(names) > 0 && r.IntN(8) > 0:
		return variable(few(r, names...))
	case r.IntN(3) > 0:
		return number(r.Int64N(8))
	}
	return few(r, date(1), text("a"), text("ab"), raw("a"), truth(1), list(), list(number(1)), list(number(1), list(date(2))))
}

// fewAtom has mostly as many terms as others of its name.
func fewAtom(r *rand.Rand, names ...string) warrant.Atom {
	count := few(r, 1, 1, 2, 2, 2)
	a := atom([]string{"p", "q", "r"}[count])
	switch r.IntN(40) {
	case 0:
		count = 0
	case 1:
		count = 6
	}
	for range count {
		a.Terms = append(a.Terms, fewTerm(r, names))
	}
	return a
}

// fewRule has only variables that its body has: those are all that guards and heads are made of.
func fewRule(r *rand.Rand) warrant.Rule {
	var rule warrant.Rule
	for range few(r, 0, 1, 1, 2, 2, 2, 3, 3, 4) {
		rule.Body = append(rule.Body, fewAtom(r, "w", "x", "y", "z"))
	}
	var names []string
	for _, a := range rule.Body {
		for _, x := range a.Terms {
			if x.Kind == 1 {
				names = append(names, x.Text)
			}
		}
	}
	for range few(r, 0, 0, 0, 1, 1, 2, 3, 4) {
		rule.Guards = append(rule.Guards, guard(fewTerm(r, names), 1+r.IntN(7), fewTerm(r, names)))
	}
	if rule.Body == nil && rule.Guards == nil {
		rule.Body = atoms(atom("p"))
	}
	rule.Head = fewAtom(r, names...)
	return rule
}

func fewBlock(r *rand.Rand) warrant.Block {
	return warrant.Block{
		Facts: several(r, 14, func(r *rand.Rand) warrant.Atom { return fewAtom(r) }),
		Rules: several(r, 7, fewRule),
	}
}

// agreesWithNaive asks both, and tells what there was to see.
func agreesWithNaive(t *testing.T, b warrant.Block) string {
	t.Helper()
	n := naiveOf(b.Facts)
	first := len(n)
	rounds := n.close(b.Rules)
	want, seen := "limit", "exceeded"
	if len(n) <= 60 && rounds <= 12 {
		var l []string
		for _, key := range slices.Sorted(maps.Keys(n)) {
			l = append(l, written(t, atoms(n[key])))
		}
		want, seen = strings.Join(l, " "), fmt.Sprint(rounds, " rounds")
		if len(n) == first {
			seen = "nothing new"
		}
	}
	if got := solved(t, b); got != want {
		source, _ := warrant.Print(b)
		t.Fatalf("P11: %s: %s, want %s", source, got, want)
	}
	return seen
}

// Random blocks, and what follows from them by the words of the document alone.
func TestSolveRandom(t *testing.T) {
	r := rand.New(rand.NewPCG(3, 1))
	seen := map[string]int{}
	for range 6_000 {
		seen[agreesWithNaive(t, fewBlock(r))]++
	}
	for _, want := range []string{"nothing new", "exceeded", "1 rounds", "2 rounds", "3 rounds", "4 rounds"} {
		if seen[want] < 10 {
			t.Errorf("%q is seen %d times only, so this test tells little: %v", want, seen[want], seen)
		}
	}
}
