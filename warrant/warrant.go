// Package warrant: tokens that say who may do what: see DOC.md.
package warrant

import (
	"errors"
	"strconv"

	"warrant/sums"
)

// Why something is refused: asked with errors.Is.
var (
	ErrWord   = errors.New("a word that may not be")
	ErrForm   = errors.New("something else is wanted here")
	ErrDeep   = errors.New("lists that are too deep")
	ErrLimit  = errors.New("too many, or too long")
	ErrFree   = errors.New("a variable that nothing binds")
	ErrShort  = errors.New("bytes that end too early")
	ErrBytes  = errors.New("bytes that may not be")
	ErrKey    = errors.New("a key that may not be")
	ErrSealed = errors.New("a token that is sealed")
	ErrTag    = errors.New("a tag that is not right")
)

// Fault is a reason and at which byte: asked with errors.As (for a *Fault).
type Fault struct {
	At  int
	Err error
}

func (f *Fault) Error() string {
	if f == nil {
		return "no fault"
	}
	text := "at byte " + strconv.Itoa(f.At)
	if isReason(f.Err) {
		text += ": " + f.Err.Error()
	}
	return text
}

func (f *Fault) Unwrap() error {
	if f == nil {
		return nil
	}
	return f.Err
}

// isReason keeps Error from asking other errors for their texts: one that leads back to its own Fault would never end.
func isReason(err error) bool {
	switch err {
	case ErrWord, ErrForm, ErrDeep, ErrLimit, ErrFree, ErrShort, ErrBytes, ErrKey, ErrSealed, ErrTag:
		return true
	}
	return false
}

// Term is a variable or a value (P4).
type Term struct {
	Kind int
	Int  int64
	Text string
	List []Term
}

// Atom is a name and terms (P4).
type Atom struct {
	Name  string
	Terms []Term
}

// Guard compares two terms (P4).
type Guard struct {
	Op   int
	A, B Term
}

// Rule tells its head where its body holds (P4).
type Rule struct {
	Head   Atom
	Body   []Atom
	Guards []Guard
}

// Check wants one of some bodies to hold (P4).
type Check struct {
	Either []Rule
}

// Policy decides where one of some bodies holds (P4).
type Policy struct {
	Allow  bool
	Either []Rule
}

// Block is facts, rules, checks (P4).
type Block struct {
	Facts  []Atom
	Rules  []Rule
	Checks []Check
}

// Request is what is asked (P16).
type Request struct {
	Clock   int64
	Facts   []Atom
	Revoked []string
}

// Sum tells the 32 bytes of a text's SHA-256 (P3).
func Sum(text string) string {
	sum := sums.Of(text)
	return string(sum[:])
}

// Mac tells the 32 bytes of the HMAC of texts, one behind the other (P3).
func Mac(key string, texts ...string) string {
	sum := sums.Keyed(key, texts...)
	return string(sum[:])
}

// Parse makes a block of a text (P5, P6).
func Parse(text string) (Block, error) { return readWhole(text, (*reader).block) }

// ParsePolicies makes policies of a text (P5, P6).
func ParsePolicies(text string) ([]Policy, error) { return readWhole(text, (*reader).policies) }

// Print makes a text of a block (P7).
func Print(b Block) (string, error) {
	if err := b.wrong(); err != nil {
		return "", err
	}
	var p printer
	p.block(b)
	return p.String(), nil
}

// Encode makes bytes of a block (P8).
func Encode(b Block) (string, error) {
	if err := b.wrong(); err != nil {
		return "", err
	}
	var e encoder
	e.block(b)
	if e.Len() > mostBytes {
		return "", ErrLimit
	}
	return e.String(), nil
}

// Decode makes a block of bytes (P9).
func Decode(text string) (Block, error) {
	if len(text) > mostBytes {
		return Block{}, ErrLimit
	}
	b, err := decodeWhole(text, (*decoder).block)
	if err != nil {
		return Block{}, err
	}
	if err := b.wrong(); err != nil {
		return Block{}, err
	}
	return b, nil
}

// Solve tells all that follows from facts and rules (P11).
func Solve(facts []Atom, rules []Rule) ([]Atom, error) {
	b := Block{Facts: facts, Rules: rules}
	if err := b.wrong(); err != nil {
		return nil, err
	}
	w, room := closedWorld(facts, rules)
	if !room {
		return nil, ErrLimit
	}
	return w.told(), nil
}

// Mint makes a token of a first block (P13).
func Mint(key string, b Block) (string, error) {
	if !isKey(key) {
		return "", ErrKey
	}
	text, err := Encode(b)
	if err != nil {
		return "", err
	}
	c := chain{links: []link{{text: text, block: b}}, tag: sums.Keyed(key, text)}
	return c.whole(), nil
}

// Attenuate puts blocks behind those of a token (P14).
func Attenuate(text string, blocks ...Block) (string, error) {
	c, err := unsealed(text)
	if err != nil {
		return "", err
	}
	for _, b := range blocks {
		if err := c.add(b); err != nil {
			return "", err
		}
	}
	return c.whole(), nil
}

// Seal ends a token (P14).
func Seal(text string) (string, error) {
	c, err := unsealed(text)
	if err != nil {
		return "", err
	}
	c.seal()
	return c.whole(), nil
}

// Verify tells a token's blocks, and of each the Sum of its tag (P15).
func Verify(key, text string) ([]Block, []string, error) {
	if !isKey(key) {
		return nil, nil, ErrKey
	}
	c, err := opened(text)
	if err != nil {
		return nil, nil, err
	}
	tags := c.tags(key)
	if !c.ends(tags[len(tags)-1]) {
		return nil, nil, ErrTag
	}
	var blocks []Block
	var ids []string
	for i, l := range c.links {
		blocks = append(blocks, l.block)
		ids = append(ids, Sum(string(tags[i][:])))
	}
	return blocks, ids, nil
}

// Authorize tells a verdict (P16).
func Authorize(key, text string, q Request, policies []Policy) (int, error) {
	asked := Block{Facts: q.Facts}
	if err := asked.wrong(); err != nil {
		return 0, err
	}
	if err := wrongPolicies(policies); err != nil {
		return 0, err
	}
	blocks, ids, err := Verify(key, text)
	switch {
	case errors.Is(err, ErrTag):
		return verdictBadTag, nil
	case err != nil:
		return verdictMalformed, nil
	case isRevoked(ids, q.Revoked):
		return verdictRevoked, nil
	}
	return decided(blocks, q, policies), nil
}
