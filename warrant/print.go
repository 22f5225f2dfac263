package warrant

import (
	"strconv"
	"strings"
)

const hexDigits = "0123456789abcdef"

// printer builds the text of a block that is right.
type printer struct {
	strings.Builder
}

func (p *printer) block(b Block) {
	printLines(p, b.Facts, p.atom)
	printLines(p, b.Rules, p.rule)
	printLines(p, b.Checks, p.check)
}

func printLines[T any](p *printer, things []T, print func(T)) {
	for _, thing := range things {
		print(thing)
		p.WriteString(";\n")
	}
}

func printBetween[T any](p *printer, between string, things []T, print func(T)) {
	for i, thing := range things {
		if i > 0 {
			p.WriteString(between)
		}
		print(thing)
	}
}

func (p *printer) rule(r Rule) {
	p.atom(r.Head)
	p.WriteString(" <- ")
	p.body(r)
}

func (p *printer) check(c Check) {
	p.WriteString("check if ")
	printBetween(p, " or ", c.Either, p.body)
}

// body prints a rule without its head.
func (p *printer) body(r Rule) {
	printBetween(p, ", ", r.Body, p.atom)
	if len(r.Body) > 0 && len(r.Guards) > 0 {
		p.WriteString(", ")
	}
	printBetween(p, ", ", r.Guards, p.guard)
}

func (p *printer) atom(a Atom) {
	p.WriteString(a.Name)
	p.WriteByte('(')
	printBetween(p, ", ", a.Terms, p.term)
	p.WriteByte(')')
}

func (p *printer) guard(g Guard) {
	p.term(g.A)
	p.WriteByte(' ')
	p.WriteString(guardMarks[g.Op-1])
	p.WriteByte(' ')
	p.term(g.B)
}

func (p *printer) term(t Term) {
	switch t.Kind {
	case kindVariable:
		p.WriteByte('$')
		p.WriteString(t.Text)
	case kindDate:
		p.WriteByte('@')
		fallthrough
	case kindInt:
		p.WriteString(strconv.FormatInt(t.Int, 10))
	case kindString:
		p.quoted(t.Text)
	case kindBytes:
		p.WriteString("hex:")
		eachByte(t.Text, p.hex)
	case kindBool:
		p.WriteString(strconv.FormatBool(t.Int == 1))
	case kindList:
		p.WriteByte('[')
		printBetween(p, ", ", t.List, p.term)
		p.WriteByte(']')
	}
}

func (p *printer) quoted(text string) {
	p.WriteByte('"')
	eachByte(text, p.quotedByte)
	p.WriteByte('"')
}

func (p *printer) quotedByte(c byte) {
	for _, e := range escapes {
		if e.meant == c {
			p.WriteByte('\\')
			p.WriteByte(e.letter)
			return
		}
	}
	if c < ' ' {
		p.WriteString(`\u00`)
		p.hex(c)
		return
	}
	p.WriteByte(c)
}

func (p *printer) hex(c byte) {
	p.WriteByte(hexDigits[c>>4])
	p.WriteByte(hexDigits[c&15])
}

func eachByte(text string, do func(byte)) {
	for i := range len(text) {
		do(text[i])
	}
}
