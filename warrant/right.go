package warrant

import "unicode/utf8"

// wrong tells why a block may not be: nil, if it is right.
func (b Block) wrong() error {
	if err := wrongAmong(b.Facts, mostStatements, wrongFact); err != nil {
		return err
	}
	if err := wrongAmong(b.Rules, mostStatements, wrongRule); err != nil {
		return err
	}
	return wrongAmong(b.Checks, mostStatements, Check.wrong)
}

func wrongPolicies(policies []Policy) error {
	return wrongAmong(policies, mostStatements, Policy.wrong)
}

// wrongAmong tells that there are too many things, or what is wrong with the first wrong one.
func wrongAmong[T any](things []T, most int, wrong func(T) error) error {
	if len(things) > most {
		return ErrLimit
	}
	return firstWrong(things, wrong)
}

func firstWrong[T any](things []T, wrong func(T) error) error {
	for _, thing := range things {
		if err := wrong(thing); err != nil {
			return err
		}
	}
	return nil
}

func wrongFact(fact Atom) error {
	if err := wrongAtom(fact); err != nil {
		return err
	}
	if !allBound(fact.Terms, nil) {
		return ErrFree
	}
	return nil
}

func wrongRule(rule Rule) error {
	if err := wrongAtom(rule.Head); err != nil {
		return err
	}
	if err := wrongBody(rule); err != nil {
		return err
	}
	if !allBound(rule.Head.Terms, rule.Body) {
		return ErrFree
	}
	return nil
}

func (c Check) wrong() error { return wrongBodies(c.Either) }

func (p Policy) wrong() error { return wrongBodies(p.Either) }

func wrongBodies(bodies []Rule) error {
	if len(bodies) == 0 {
		return ErrForm
	}
	return wrongAmong(bodies, mostBodies, wrongHeadless)
}

func wrongHeadless(body Rule) error {
	if body.Head.Name != "" || len(body.Head.Terms) > 0 {
		return ErrForm
	}
	return wrongBody(body)
}

// wrongBody looks at a rule without its head.
func wrongBody(rule Rule) error {
	switch {
	case len(rule.Body) == 0 && len(rule.Guards) == 0:
		return ErrForm
	case len(rule.Body) > mostAtoms, len(rule.Guards) > mostGuards:
		return ErrLimit
	}
	if err := firstWrong(rule.Body, wrongAtom); err != nil {
		return err
	}
	return firstWrong(rule.Guards, func(g Guard) error { return wrongGuard(g, rule.Body) })
}

func wrongGuard(g Guard, atoms []Atom) error {
	if g.Op < 1 || g.Op > len(guardMarks) {
		return ErrForm
	}
	for _, side := range [...]Term{g.A, g.B} {
		if err := depth(0).wrong(side); err != nil {
			return err
		}
		if !allBound([]Term{side}, atoms) {
			return ErrFree
		}
	}
	return nil
}

func wrongAtom(a Atom) error {
	if !isName(a.Name) {
		return ErrForm
	}
	return wrongAmong(a.Terms, mostTerms, depth(0).wrong)
}

// depth is in how many lists a term stands.
type depth int

func (d depth) wrong(t Term) error {
	switch {
	case !hasForm(t), t.Kind == kindVariable && d > 0:
		return ErrForm
	case len(t.Text) > mostText, len(t.List) > mostTerms:
		return ErrLimit
	case t.Kind == kindList && d == mostDepth:
		return ErrDeep
	}
	return firstWrong(t.List, (d + 1).wrong)
}

// hasForm: there is such a kind, and the term has what that kind has, and nothing else.
func hasForm(t Term) bool {
	noInt, noText, noList := t.Int == 0, t.Text == "", len(t.List) == 0
	switch t.Kind {
	case kindVariable:
		return noInt && noList && isName(t.Text)
	case kindString:
		return noInt && noList && utf8.ValidString(t.Text)
	case kindBytes:
		return noInt && noList
	case kindInt, kindDate:
		return noText && noList
	case kindBool:
		return noText && noList && (t.Int == 0 || t.Int == 1)
	case kindList:
		return noInt && noText
	}
	return false
}

// isName goes by runes: a letter beyond a to z is none of its bytes.
func isName(text string) bool {
	if text == "" || len(text) > mostName {
		return false
	}
	for i, c := range text {
		if c >= utf8.RuneSelf || !isWithinName(byte(c)) || i == 0 && !isSmall(byte(c)) {
			return false
		}
	}
	return true
}
