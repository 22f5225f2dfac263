package warrant_test

import (
	"errors"
	"fmt"

	"warrant/warrant"
)

// told tells an error as "word at 4", or "ok".
func told(err error) string {
	if err == nil {
		return "ok"
	}
	text := "no reason"
	for _, r := range []struct {
		name   string
		reason error
	}{
		{"word", warrant.ErrWord}, {"form", warrant.ErrForm}, {"deep", warrant.ErrDeep}, {"limit", warrant.ErrLimit}, {"free", warrant.ErrFree},
		{"short", warrant.ErrShort}, {"bytes", warrant.ErrBytes}, {"key", warrant.ErrKey}, {"sealed", warrant.ErrSealed}, {"tag", warrant.ErrTag},
	} {
		switch {
		case !errors.Is(err, r.reason):
		case text == "no reason":
			text = r.name
		default:
			text += " and " + r.name
		}
	}
	var f *warrant.Fault
	if errors.As(err, &f) {
		text += fmt.Sprint(" at ", f.At)
	}
	return text
}

// What the tests build blocks of. Without arguments they have nil lists.

func variable(name string) warrant.Term { return warrant.Term{Kind: 1, Text: name} }

func number(n int64) warrant.Term { return warrant.Term{Kind: 2, Int: n} }

func text(s string) warrant.Term { return warrant.Term{Kind: 3, Text: s} }

func raw(s string) warrant.Term { return warrant.Term{Kind: 4, Text: s} }

func date(n int64) warrant.Term { return warrant.Term{Kind: 5, Int: n} }

func truth(n int64) warrant.Term { return warrant.Term{Kind: 6, Int: n} }

func list(l ...warrant.Term) warrant.Term { return warrant.Term{Kind: 7, List: l} }

func atom(name string, l ...warrant.Term) warrant.Atom { return warrant.Atom{Name: name, Terms: l} }

func guard(a warrant.Term, op int, b warrant.Term) warrant.Guard {
	return warrant.Guard{Op: op, A: a, B: b}
}

func facts(l ...warrant.Atom) warrant.Block { return warrant.Block{Facts: l} }

func rules(l ...warrant.Rule) warrant.Block { return warrant.Block{Rules: l} }

// check is a block of one check.
func check(l ...warrant.Rule) warrant.Block {
	return warrant.Block{Checks: []warrant.Check{{Either: l}}}
}

func body(atoms []warrant.Atom, guards ...warrant.Guard) warrant.Rule {
	return warrant.Rule{Body: atoms, Guards: guards}
}

func atoms(l ...warrant.Atom) []warrant.Atom { return l }
