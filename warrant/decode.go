package warrant

import "strings"

// refusal is what stops the reading of bytes: a type of its own, so that no other panic is taken for one.
type refusal struct{ why error }

// decoder goes through bytes from the left.
type decoder struct {
	left string
}

func (d *decoder) refuse(why error) {
	panic(refusal{why})
}

// decodeWhole reads something that takes all of the text, and catches what stops the reading.
func decodeWhole[T any](text string, decode func(*decoder) T) (whole T, err error) {
	defer func() {
		switch caught := recover().(type) {
		case nil:
		case refusal:
			err = caught.why
		default:
			panic(caught)
		}
	}()
	d := &decoder{left: text}
	read := decode(d)
	if d.left != "" {
		d.refuse(ErrBytes)
	}
	return read, nil
}

// block reads a block, right or not.
func (d *decoder) block() Block {
	return Block{
		Facts:  decodeMany(d, mostStatements, d.atom),
		Rules:  decodeMany(d, mostStatements, d.rule),
		Checks: decodeMany(d, mostStatements, d.check),
	}
}

func decodeMany[T any](d *decoder, most uint64, decode func() T) []T {
	many := d.number()
	if many > most {
		d.refuse(ErrLimit)
	}
	var things []T
	for range many {
		things = append(things, decode())
	}
	return things
}

func (d *decoder) rule() Rule {
	head := d.atom()
	rule := d.body()
	rule.Head = head
	return rule
}

func (d *decoder) check() Check {
	return Check{Either: decodeMany(d, mostBodies, d.body)}
}

// body reads a rule without its head.
func (d *decoder) body() Rule {
	return Rule{
		Body:   decodeMany(d, mostAtoms, d.atom),
		Guards: decodeMany(d, mostGuards, d.guard),
	}
}

func (d *decoder) atom() Atom {
	return Atom{Name: d.text(), Terms: d.terms(0)}
}

func (d *decoder) guard() Guard {
	return Guard{Op: int(d.byte()), A: d.term(0), B: d.term(0)}
}

// terms reads terms that stand in as many lists as depth tells.
func (d *decoder) terms(depth int) []Term {
	return decodeMany(d, mostTerms, func() Term { return d.term(depth) })
}

func (d *decoder) term(depth int) Term {
	t := Term{Kind: int(d.byte())}
	switch t.Kind {
	case kindInt, kindDate:
		t.Int = unfolded(d.number())
	case kindBool:
		t.Int = int64(d.byte())
	case kindList:
		if depth == mostDepth {
			d.refuse(ErrDeep)
		}
		t.List = d.terms(depth + 1)
	case kindVariable, kindString, kindBytes:
		t.Text = d.text()
	default:
		d.refuse(ErrBytes)
	}
	return t
}

// text is a copy, so that no answer keeps the bytes that came in.
func (d *decoder) text() string {
	return strings.Clone(d.take(d.number()))
}

// number reads at most ten bytes: nine have 63 bits, so the tenth can only be the last, and 1.
func (d *decoder) number() uint64 {
	var n uint64
	for shift := 0; ; shift += 7 {
		c := d.byte()
		if shift == 63 && c > 1 || shift > 0 && c == 0 {
			d.refuse(ErrBytes)
		}
		n |= uint64(c&127) << shift
		if c < 128 {
			return n
		}
	}
}

func (d *decoder) byte() byte {
	return d.take(1)[0]
}

func (d *decoder) take(many uint64) string {
	if many > uint64(len(d.left)) {
		d.refuse(ErrShort)
	}
	taken := d.left[:many]
	d.left = d.left[many:]
	return taken
}

// unfolded turns round what folded does.
func unfolded(n uint64) int64 {
	return int64(n>>1) ^ -int64(n&1)
}
