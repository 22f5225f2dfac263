package warrant

import "strings"

// encoder builds the bytes of a block that is right.
type encoder struct {
	strings.Builder
}

func (e *encoder) block(b Block) {
	encodeMany(e, b.Facts, e.atom)
	encodeMany(e, b.Rules, e.rule)
	encodeMany(e, b.Checks, e.check)
}

func encodeMany[T any](e *encoder, things []T, encode func(T)) {
	e.number(uint64(len(things)))
	for _, thing := range things {
		encode(thing)
	}
}

func (e *encoder) rule(r Rule) {
	e.atom(r.Head)
	e.body(r)
}

func (e *encoder) check(c Check) {
	encodeMany(e, c.Either, e.body)
}

// body encodes a rule without its head.
func (e *encoder) body(r Rule) {
	encodeMany(e, r.Body, e.atom)
	encodeMany(e, r.Guards, e.guard)
}

func (e *encoder) atom(a Atom) {
	e.text(a.Name)
	encodeMany(e, a.Terms, e.term)
}

func (e *encoder) guard(g Guard) {
	e.WriteByte(byte(g.Op))
	e.term(g.A)
	e.term(g.B)
}

func (e *encoder) term(t Term) {
	e.WriteByte(byte(t.Kind))
	switch t.Kind {
	case kindInt, kindDate:
		e.number(folded(t.Int))
	case kindBool:
		e.WriteByte(byte(t.Int))
	case kindList:
		encodeMany(e, t.List, e.term)
	default:
		e.text(t.Text)
	}
}

func (e *encoder) text(text string) {
	e.number(uint64(len(text)))
	e.WriteString(text)
}

// number writes seven bits a byte, the lowest first.
func (e *encoder) number(n uint64) {
	for n >= 128 {
		e.WriteByte(byte(n) | 128)
		n >>= 7
	}
	e.WriteByte(byte(n))
}

// folded makes 0, -1, 1, -2 to 0, 1, 2, 3: so small ones take few bytes, below 0 too.
func folded(n int64) uint64 {
	return uint64(n)<<1 ^ uint64(n>>63)
}
