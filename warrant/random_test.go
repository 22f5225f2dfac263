package warrant_test

import (
	"math/rand/v2"

	"warrant/warrant"
)

// several makes up to most things, none of them often.
func several[T any](r *rand.Rand, most int, one func(*rand.Rand) T) []T {
	var l []T
	for range r.IntN(most + 1) {
		l = append(l, one(r))
	}
	return l
}

func randomName(r *rand.Rand) string { return []string{"p", "q2", "right_of_a_long_1"[:16]}[r.IntN(3)] }

func randomInt(r *rand.Rand) int64 { return int64(r.Uint64()) >> r.IntN(64) }

func randomString(r *rand.Rand) string {
	s := ""
	for _, c := range several(r, 12, func(r *rand.Rand) rune { return []rune{rune(r.IntN(128)), 'é', '\ufffd', '\U0001f600'}[r.IntN(4)] }) {
		s += string(c)
	}
	return s
}

func randomBytes(r *rand.Rand) string {
	return string(several(r, 64, func(r *rand.Rand) byte { return byte(r.IntN(256)) }))
}

// randomValue is a term that is no variable, in as many lists as depth tells.
func randomValue(r *rand.Rand, depth int) warrant.Term {
	switch r.IntN(6) {
	case 0:
		return number(randomInt(r))
	case 1:
		return text(randomString(r))
	case 2:
		return raw(randomBytes(r))
	case 3:
		return date(randomInt(r))
	case 4:
		return truth(int64(r.IntN(2)))
	}
	if depth == 3 {
		return number(7)
	}
	return list(several(r, 6, func(r *rand.Rand) warrant.Term { return randomValue(r, depth+1) })...)
}

// randomTerm: a variable is one of names.
func randomTerm(r *rand.Rand, names ...string) warrant.Term {
	if len(names) > 0 && r.IntN(2) == 0 {
		return variable(names[r.IntN(len(names))])
	}
	return randomValue(r, 0)
}

func randomAtom(r *rand.Rand, names ...string) warrant.Atom {
	return atom(randomName(r), several(r, 6, func(r *rand.Rand) warrant.Term { return randomTerm(r, names...) })...)
}

// randomRule has a head if headed tells so; its first atom binds both variables, if it has atoms.
func randomRule(r *rand.Rand, headed bool) warrant.Rule {
	var names []string
	var rule warrant.Rule
	if r.IntN(3) > 0 {
		names = []string{"x", "y1"}
		rule.Body = append(atoms(atom("p", variable("y1"), variable("x"))), several(r, 3, func(r *rand.Rand) warrant.Atom { return randomAtom(r, names...) })...)
	}
	rule.Guards = several(r, 4, func(r *rand.Rand) warrant.Guard {
		return guard(randomTerm(r, names...), 1+r.IntN(7), randomTerm(r, names...))
	})
	if rule.Body == nil && rule.Guards == nil {
		rule.Body = atoms(atom("q"))
	}
	if headed {
		rule.Head = randomAtom(r, names...)
	}
	return rule
}

func randomCheck(r *rand.Rand) warrant.Check {
	return warrant.Check{Either: append([]warrant.Rule{randomRule(r, false)}, several(r, 3, func(r *rand.Rand) warrant.Rule { return randomRule(r, false) })...)}
}

// randomBlock is right. Where it has nothing, its lists are nil.
func randomBlock(r *rand.Rand) warrant.Block {
	return warrant.Block{
		Facts:  several(r, 5, func(r *rand.Rand) warrant.Atom { return randomAtom(r) }),
		Rules:  several(r, 3, func(r *rand.Rand) warrant.Rule { return randomRule(r, true) }),
		Checks: several(r, 2, randomCheck),
	}
}
