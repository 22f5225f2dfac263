package warrant

// The kinds of terms.
const (
	kindVariable = iota + 1
	kindInt
	kindString
	kindBytes
	kindDate
	kindBool
	kindList
)

// How much there may be at most of each thing.
const (
	mostName       = 16    // bytes of a name
	mostText       = 64    // bytes of a string, or of bytes
	mostTerms      = 6     // terms of an atom, or of a list
	mostDepth      = 3     // lists in each other
	mostAtoms      = 4     // atoms of a body
	mostGuards     = 4     // guards of a body
	mostBodies     = 4     // bodies of a check, or of a policy
	mostStatements = 24    // facts, rules, checks, policies: of each
	mostSource     = 8_000 // bytes of a text that is parsed
	mostBytes      = 4_000 // bytes of an encoded block
	mostFacts      = 60    // facts of a world
	mostRounds     = 12    // rounds that bring something new
	mostKey        = 100   // bytes of a key
	mostBlocks     = 8     // blocks of a token
)

// guardMarks has the mark of each guard: that of Op 1 first.
var guardMarks = [...]string{"==", "!=", "<", "<=", ">", ">=", "^="}
