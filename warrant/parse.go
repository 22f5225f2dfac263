package warrant

// readWhole reads a text in one way, and catches what stops the reading.
func readWhole[T any](text string, read func(*reader) T) (whole T, err error) {
	if len(text) > mostSource {
		return whole, &Fault{At: mostSource, Err: ErrLimit}
	}
	defer func() {
		caught := recover()
		if caught == nil {
			return
		}
		fault, ok := caught.(*Fault)
		if !ok {
			panic(caught)
		}
		err = fault
	}()
	r := &reader{text: text}
	r.read()
	return read(r), nil
}

// joined puts a thing that has been read behind those ahead of it, if there may be one more.
func joined[T any](things []T, thing T, most, at int) []T {
	if len(things) == most {
		stop(at, ErrLimit)
	}
	return append(things, thing)
}

// separated reads things with a word or mark between them: one at least.
func separated[T any](r *reader, between string, most int, read func() T) []T {
	var things []T
	for {
		at := r.next.at
		things = joined(things, read(), most, at)
		if r.next.text != between {
			return things
		}
		r.take()
	}
}

// want takes the next token, which must be this word or mark.
func (r *reader) want(text string) {
	if r.next.text != text {
		r.refuse(ErrForm)
	}
	r.take()
}

func (r *reader) block() Block {
	var b Block
	for !r.next.isEnd() {
		if r.next.text == "check" {
			r.check(&b)
		} else {
			r.factOrRule(&b)
		}
		r.want(";")
	}
	return b
}

func (r *reader) check(b *Block) {
	at := r.take().at
	b.Checks = joined(b.Checks, Check{Either: r.bodies()}, mostStatements, at)
}

func (r *reader) factOrRule(b *Block) {
	at := r.next.at
	head := r.atom()
	if r.next.text != "<-" {
		if !allBound(head.Terms, nil) {
			stop(at, ErrFree)
		}
		b.Facts = joined(b.Facts, head, mostStatements, at)
		return
	}
	r.take()
	rule := r.body()
	rule.Head = head
	if !allBound(head.Terms, rule.Body) {
		stop(at, ErrFree)
	}
	b.Rules = joined(b.Rules, rule, mostStatements, at)
}

func (r *reader) policies() []Policy {
	var policies []Policy
	for !r.next.isEnd() {
		if r.next.text != "allow" && r.next.text != "deny" {
			r.refuse(ErrForm)
		}
		verdict := r.take()
		policy := Policy{Allow: verdict.text == "allow", Either: r.bodies()}
		policies = joined(policies, policy, mostStatements, verdict.at)
		r.want(";")
	}
	return policies
}

// bodies reads what checks and policies have behind their first word.
func (r *reader) bodies() []Rule {
	r.want("if")
	return separated(r, "or", mostBodies, r.body)
}

// body reads a rule without its head.
func (r *reader) body() Rule {
	var body Rule
	start := r.next.at
	for {
		at := r.next.at
		if r.next.isWord() && !isBool(r.next.text) {
			body.Body = joined(body.Body, r.atom(), mostAtoms, at)
		} else {
			body.Guards = joined(body.Guards, r.guard(), mostGuards, at)
		}
		if r.next.text != "," {
			break
		}
		r.take()
	}
	for _, g := range body.Guards {
		if !allBound([]Term{g.A, g.B}, body.Body) {
			stop(start, ErrFree)
		}
	}
	return body
}

func (r *reader) atom() Atom {
	if !r.next.isWord() || isKept(r.next.text) {
		r.refuse(ErrForm)
	}
	name := r.take().text
	r.want("(")
	return Atom{Name: name, Terms: r.terms(")", 0)}
}

func (r *reader) guard() Guard {
	first := r.term(0)
	op := guardOp(r.next.text)
	if op == 0 {
		r.refuse(ErrForm)
	}
	r.take()
	return Guard{Op: op, A: first, B: r.term(0)}
}

// terms reads terms up to their closing mark, within as many lists as depth tells.
func (r *reader) terms(closing string, depth int) []Term {
	var terms []Term
	if r.next.text != closing {
		terms = separated(r, ",", mostTerms, func() Term { return r.term(depth) })
	}
	r.want(closing)
	return terms
}

func (r *reader) term(depth int) Term {
	next := r.next
	switch {
	case isBool(next.text):
		r.take()
		return boolTerm(next.text == "true")
	case next.text == "[":
		return r.list(depth)
	case next.term.Kind == 0, next.term.Kind == kindVariable && depth > 0:
		r.refuse(ErrForm)
	}
	r.take()
	return next.term
}

func (r *reader) list(depth int) Term {
	if depth == mostDepth {
		r.refuse(ErrDeep)
	}
	r.take()
	return Term{Kind: kindList, List: r.terms("]", depth+1)}
}

func boolTerm(holds bool) Term {
	if holds {
		return Term{Kind: kindBool, Int: 1}
	}
	return Term{Kind: kindBool}
}

// guardOp tells which guard has that mark: 0, if none.
func guardOp(mark string) int {
	for i, m := range guardMarks {
		if m == mark {
			return i + 1
		}
	}
	return 0
}

func isBool(word string) bool { return word == "true" || word == "false" }

// isKept: words that the language keeps for itself, so that no atom has them as its name.
func isKept(word string) bool {
	switch word {
	case "check", "allow", "deny", "if", "or", "true", "false", "hex":
		return true
	}
	return false
}

// allBound: each variable among these terms is one of the atoms' too. (In lists there are none.)
func allBound(terms []Term, atoms []Atom) bool {
	for _, t := range terms {
		if t.Kind == kindVariable && !hasVariable(atoms, t.Text) {
			return false
		}
	}
	return true
}

func hasVariable(atoms []Atom, name string) bool {
	for _, a := range atoms {
		for _, t := range a.Terms {
			if t.Kind == kindVariable && t.Text == name {
				return true
			}
		}
	}
	return false
}
