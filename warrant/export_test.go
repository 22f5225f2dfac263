package warrant

// WrongPolicies: no call of the face asks for this alone, but P4 promises it.
var WrongPolicies = wrongPolicies

// Exceeds tells whether so many facts, or what follows from them, are more than a world may have: Solve never has more than 24 at first.
func Exceeds(facts []Atom, rules []Rule) bool {
	w := newWorld()
	return !w.take(facts) || !w.close(rules)
}
