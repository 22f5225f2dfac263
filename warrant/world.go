package warrant

import (
	"slices"
	"strings"
)

// world is some facts, and the values that they and the rules are made of. Each value has a number, so that lists are gone through once, and then told from each other by that.
type world struct {
	facts   []fact
	known   map[fact]struct{} // the same facts
	values  []Term
	numbers map[string]int // of each value, by its bytes
}

// fact has its values by their numbers: facts are the same if they are equal.
type fact struct {
	name   string
	count  int
	values [mostTerms]int
}

func newWorld() *world {
	return &world{known: map[fact]struct{}{}, numbers: map[string]int{}}
}

// closedWorld is facts and all that follows from them by rules. It tells false if that is more than may be.
func closedWorld(facts []Atom, rules []Rule) (*world, bool) {
	w := newWorld()
	return w, w.take(facts) && w.close(rules)
}

// take lets atoms that have no variables join the facts. It tells whether there was room.
func (w *world) take(atoms []Atom) bool {
	for _, a := range atoms {
		if !w.join(w.pattern(a).filled(bindings{})) {
			return false
		}
	}
	return true
}

// join tells whether there was room for a fact; one that is there already needs none.
func (w *world) join(f fact) bool {
	switch {
	case w.knows(f):
		return true
	case len(w.facts) == mostFacts:
		return false
	}
	w.known[f] = struct{}{}
	w.facts = append(w.facts, f)
	return true
}

func (w *world) knows(f fact) bool {
	_, known := w.known[f]
	return known
}

// number tells a value's number: a new one, if none ahead of it was the same.
func (w *world) number(value Term) int {
	var e encoder
	e.term(value)
	n, known := w.numbers[e.String()]
	if !known {
		n = len(w.values)
		w.numbers[e.String()] = n
		w.values = append(w.values, value)
	}
	return n
}

// close lets join what follows by rules, round by round. It tells false if that is more than may be.
func (w *world) close(rules []Rule) bool {
	var bodies []*body
	for _, r := range rules {
		bodies = append(bodies, w.body(r))
	}
	seen := 0
	for range mostRounds + 1 {
		now := len(w.facts)
		for _, b := range bodies {
			b.learn(seen, now)
			if !b.follow(seen) {
				return false
			}
		}
		if len(w.facts) == now {
			return true
		}
		seen = now
	}
	return false
}

// told tells all facts, rising by their bytes.
func (w *world) told() []Atom {
	type line struct {
		bytes string
		atom  Atom
	}
	var lines []line
	for _, f := range w.facts {
		var e encoder
		a := w.atom(f)
		e.atom(a)
		lines = append(lines, line{e.String(), a})
	}
	slices.SortFunc(lines, func(a, b line) int { return strings.Compare(a.bytes, b.bytes) })
	var atoms []Atom
	for _, l := range lines {
		atoms = append(atoms, l.atom)
	}
	return atoms
}

func (w *world) atom(f fact) Atom {
	a := Atom{Name: strings.Clone(f.name)}
	for _, n := range f.values[:f.count] {
		a.Terms = append(a.Terms, copied(w.values[n]))
	}
	return a
}

// copied is new memory all through: what came in is not handed out, and nothing twice.
func copied(t Term) Term {
	var list []Term
	for _, inner := range t.List {
		list = append(list, copied(inner))
	}
	return Term{Kind: t.Kind, Int: t.Int, Text: strings.Clone(t.Text), List: list}
}
