package warrant

import (
	"math/bits"
	"slices"
)

// set is some facts of a world, by their places: there are few enough for bits.
type set uint64

// sets has for each atom of a body the facts that it may be.
type sets [mostAtoms]set

// below is the first n facts.
func below(n int) set { return 1<<n - 1 }

// each goes through the places of the facts.
func (s set) each(yield func(int) bool) {
	for ; s != 0; s &= s - 1 {
		if !yield(bits.TrailingZeros64(uint64(s))) {
			return
		}
	}
}

// body is what a rule says, in a world. What binds atoms to each other, a variable or a guard, is always between two of them: so facts of which each two go together do so all. The tables of that keep short what would be a walk through up to 60 facts for each of 4 atoms.
type body struct {
	world  *world
	head   pattern
	atoms  []pattern
	guards []comparison
	homes  []home
	bound  bindings
	alone  sets                       // what each atom may be, were it the only one
	beside [mostAtoms][mostFacts]sets // what each atom may be behind one that is some fact
}

func (w *world) body(r Rule) *body {
	b := &body{world: w, head: w.pattern(r.Head), bound: bindings{values: map[string]int{}}}
	for _, a := range r.Body {
		b.atoms = append(b.atoms, w.pattern(a))
	}
	for _, g := range r.Guards {
		b.guards = append(b.guards, w.comparison(g))
	}
	b.homes = headHomes(b.head, b.atoms)
	return b
}

// home is where an atom has a variable that the head has too.
type home struct {
	variable   string
	atom, slot int
}

// headHomes tells one home of each of the head's variables.
func headHomes(head pattern, atoms []pattern) []home {
	var homes []home
	for i, p := range atoms {
		for k, s := range p.slots {
			isHome := func(h home) bool { return h.variable == s.variable }
			if s.variable != "" && slices.Contains(head.slots, s) && !slices.ContainsFunc(homes, isHome) {
				homes = append(homes, home{s.variable, i, k})
			}
		}
	}
	return homes
}

// learn puts into the tables the facts up to now that have not been seen yet.
func (b *body) learn(seen, now int) {
	for i, p := range b.atoms {
		b.alone[i] |= b.fitting(p, below(now)&^below(seen))
	}
	for i := range b.atoms {
		for n := range b.alone[i].each {
			b.learnBeside(i, n, seen)
		}
	}
}

// learnBeside looks what may stand behind an atom that is some fact. If both facts have been seen, that is in the table.
func (b *body) learnBeside(i, n, seen int) {
	b.bound.match(b.atoms[i], b.world.facts[n])
	for k := i + 1; k < len(b.atoms); k++ {
		others := b.alone[k]
		if n < seen {
			others &^= below(seen)
		}
		b.beside[i][n][k] |= b.fitting(b.atoms[k], others)
	}
	b.bound.free(0)
}

// fitting tells which of some facts an atom may be, with what is bound already.
func (b *body) fitting(p pattern, some set) set {
	var fit set
	were := len(b.bound.order)
	for n := range some.each {
		if b.bound.match(p, b.world.facts[n]) && b.agrees() {
			fit |= 1 << n
		}
		b.bound.free(were)
	}
	return fit
}

// agrees: no guard fails of which both sides are known.
func (b *body) agrees() bool {
	for _, g := range b.guards {
		first, known := b.bound.of(g.a)
		second, knownToo := b.bound.of(g.b)
		if known && knownToo && !b.world.compare(g.op, first, second) {
			return false
		}
	}
	return true
}

// follow lets join the heads of all ways that have a fact not seen yet; the others have been walked. It tells whether there was room.
func (b *body) follow(seen int) bool {
	if len(b.atoms) == 0 && b.agrees() {
		return b.world.join(b.head.filled(b.bound))
	}
	for i := range b.atoms {
		left := b.alone
		for k := range i {
			left[k] &= below(seen)
		}
		left[i] &^= below(seen)
		if !b.tell(left) {
			return false
		}
	}
	return true
}

// tell lets join the heads of all ways in which the atoms are facts of left. It walks by what the head's variables stand for, as many ways may have one head. It tells whether there was room.
func (b *body) tell(left sets) bool {
	var walk func(int, sets) bool
	walk = func(at int, left sets) bool {
		if !b.holds(left) {
			return true
		}
		if at == len(b.homes) {
			return b.world.join(b.head.filled(b.bound))
		}
		h := b.homes[at]
		were := len(b.bound.order)
		for value, facts := range b.choices(h, left[h.atom]) {
			b.bound.bind(h.variable, value)
			left[h.atom] = facts
			room := walk(at+1, left)
			b.bound.free(were)
			if !room {
				return false
			}
		}
		return true
	}
	return walk(0, left)
}

// choices tells what a variable may stand for, and with which of some facts for its atom.
func (b *body) choices(h home, some set) map[int]set {
	choices := map[int]set{}
	for n := range some.each {
		choices[b.world.facts[n].values[h.slot]] |= 1 << n
	}
	return choices
}

// holds: there is a way in which the atoms are facts of left.
func (b *body) holds(left sets) bool {
	var walk func(int, sets) bool
	walk = func(at int, left sets) bool {
		if at == len(b.atoms) {
			return true
		}
		for n := range left[at].each {
			if narrowed, some := b.narrowed(left, at, n); some && walk(at+1, narrowed) {
				return true
			}
		}
		return false
	}
	return walk(0, left)
}

// narrowed is what is left for the atoms behind one that is some fact. It tells whether that is something for each.
func (b *body) narrowed(left sets, at, n int) (sets, bool) {
	for k := at + 1; k < len(b.atoms); k++ {
		left[k] &= b.beside[at][n][k]
		if left[k] == 0 {
			return left, false
		}
	}
	return left, true
}
