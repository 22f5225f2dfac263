package warrant

import "strings"

// slot is a term of a rule: a variable, or, if that is "", a value by its number.
type slot struct {
	variable string
	value    int
}

// pattern is an atom of a rule.
type pattern struct {
	name  string
	slots []slot
}

// comparison is a guard of a rule.
type comparison struct {
	op   int
	a, b slot
}

func (w *world) slot(t Term) slot {
	if t.Kind == kindVariable {
		return slot{variable: t.Text}
	}
	return slot{value: w.number(t)}
}

func (w *world) pattern(a Atom) pattern {
	p := pattern{name: a.Name}
	for _, t := range a.Terms {
		p.slots = append(p.slots, w.slot(t))
	}
	return p
}

func (w *world) comparison(g Guard) comparison {
	return comparison{op: g.Op, a: w.slot(g.A), b: w.slot(g.B)}
}

// bindings is what variables stand for, and in which order they came to be bound, to free the last of them again.
type bindings struct {
	values map[string]int
	order  []string
}

// of tells what a slot stands for, if that is known.
func (b *bindings) of(s slot) (int, bool) {
	if s.variable == "" {
		return s.value, true
	}
	value, known := b.values[s.variable]
	return value, known
}

// match binds variables so that the pattern is the fact. If that can't be, some may be bound nonetheless.
func (b *bindings) match(p pattern, f fact) bool {
	if p.name != f.name || len(p.slots) != f.count {
		return false
	}
	for i, s := range p.slots {
		value, known := b.of(s)
		switch {
		case !known:
			b.bind(s.variable, f.values[i])
		case value != f.values[i]:
			return false
		}
	}
	return true
}

func (b *bindings) bind(variable string, value int) {
	b.values[variable] = value
	b.order = append(b.order, variable)
}

// free leaves only as many bound as there were.
func (b *bindings) free(were int) {
	for _, name := range b.order[were:] {
		delete(b.values, name)
	}
	b.order = b.order[:were]
}

// filled is the fact that a pattern becomes when all its variables are bound.
func (p pattern) filled(b bindings) fact {
	f := fact{name: p.name, count: len(p.slots)}
	for i, s := range p.slots {
		f.values[i], _ = b.of(s)
	}
	return f
}

// compare tells whether a guard holds between two values.
func (w *world) compare(op, a, b int) bool {
	first, second := w.values[a], w.values[b]
	alike := first.Kind == second.Kind
	areNumbers := alike && (first.Kind == kindInt || first.Kind == kindDate)
	areTexts := alike && (first.Kind == kindString || first.Kind == kindBytes)
	switch guardMarks[op-1] {
	case "==":
		return a == b
	case "!=":
		return alike && a != b
	case "<":
		return areNumbers && first.Int < second.Int
	case "<=":
		return areNumbers && first.Int <= second.Int
	case ">":
		return areNumbers && first.Int > second.Int
	case ">=":
		return areNumbers && first.Int >= second.Int
	default:
		return areTexts && strings.HasPrefix(first.Text, second.Text)
	}
}
