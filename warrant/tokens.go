package warrant

import (
	"strconv"
	"strings"
	"unicode/utf8"
)

// marks: those of two bytes come first, so that the first one that fits is the longest.
var marks = [...]string{"<-", "<=", ">=", "==", "!=", "^=", "<", ">", "(", ")", "[", "]", ",", ";"}

// escapes: what a letter behind a backslash of a string stands for (but for u).
var escapes = [...]struct{ letter, meant byte }{{'"', '"'}, {'\\', '\\'}, {'n', '\n'}, {'t', '\t'}, {'r', '\r'}}

// token is a word or a mark (its text), or a term that is one token; the end is neither.
type token struct {
	at   int
	text string
	term Term
}

func (t token) isWord() bool { return t.text != "" && isSmall(t.text[0]) }

func (t token) isEnd() bool { return t.text == "" && t.term.Kind == 0 }

// reader goes through a text from the left, one token ahead of what has been taken.
type reader struct {
	text string
	at   int // behind the token that is next
	next token
}

// stop ends all reading; readWhole catches what it throws.
func stop(at int, why error) {
	panic(&Fault{At: at, Err: why})
}

// refuse stops at the token that is next.
func (r *reader) refuse(why error) {
	stop(r.next.at, why)
}

// take tells the next token, and reads the one behind it.
func (r *reader) take() token {
	taken := r.next
	r.read()
	return taken
}

// read makes the token that begins behind the last one the next.
func (r *reader) read() {
	r.skip()
	r.next = token{at: r.at}
	if r.at == len(r.text) {
		return
	}
	kind := kindInt
	switch c := r.text[r.at]; {
	case isSmall(c):
		r.readWord()
	case c == '$':
		r.readVariable()
	case c == '"':
		r.readString()
	case c == '@':
		kind = kindDate
		r.at++
		fallthrough
	case c == '-' || isDigit(c):
		r.next.term = Term{Kind: kind, Int: r.readInt()}
	default:
		r.readMark()
	}
}

// skip goes past blanks and notes.
func (r *reader) skip() {
	for r.at < len(r.text) {
		switch {
		case isBlank(r.text[r.at]):
			r.at++
		case strings.HasPrefix(r.text[r.at:], "//"):
			r.run(isWithinLine)
		default:
			return
		}
	}
}

// peek tells the byte that comes now: at the end 0, which nothing asks for.
func (r *reader) peek() byte {
	if r.at == len(r.text) {
		return 0
	}
	return r.text[r.at]
}

// run goes past the longest run of bytes that fit, and tells it.
func (r *reader) run(fits func(byte) bool) string {
	from := r.at
	for r.at < len(r.text) && fits(r.text[r.at]) {
		r.at++
	}
	return r.text[from:r.at]
}

func (r *reader) readWord() {
	word := r.run(isWithinName)
	if len(word) > mostName {
		r.refuse(ErrLimit)
	}
	if word == "hex" && r.peek() == ':' {
		r.at++
		r.readBytes()
		return
	}
	r.next.text = strings.Clone(word)
}

func (r *reader) readBytes() {
	digits := r.run(isHex)
	if len(digits)%2 != 0 {
		r.refuse(ErrWord)
	}
	if len(digits)/2 > mostText {
		r.refuse(ErrLimit)
	}
	text := make([]byte, len(digits)/2)
	for i := range text {
		text[i] = hexValue(digits[2*i])<<4 | hexValue(digits[2*i+1])
	}
	r.next.term = Term{Kind: kindBytes, Text: string(text)}
}

func (r *reader) readVariable() {
	r.at++
	name := r.run(isWithinName)
	if len(name) > mostName {
		r.refuse(ErrLimit)
	}
	if !isName(name) {
		r.refuse(ErrWord)
	}
	r.next.term = Term{Kind: kindVariable, Text: strings.Clone(name)}
}

func (r *reader) readInt() int64 {
	from := r.at
	if r.peek() == '-' {
		r.at++
	}
	digits := r.run(isDigit)
	whole := r.text[from:r.at]
	if digits == "" || digits[0] == '0' && whole != "0" {
		r.refuse(ErrWord)
	}
	n, err := strconv.ParseInt(whole, 10, 64)
	if err != nil {
		r.refuse(ErrWord)
	}
	return n
}

func (r *reader) readString() {
	var text []byte
	r.at++
	for r.peek() != '"' {
		if r.at == len(r.text) || r.peek() == '\n' {
			r.refuse(ErrWord)
		}
		if r.peek() == '\\' {
			r.at++
			text = utf8.AppendRune(text, r.readEscape())
			continue
		}
		c, size := utf8.DecodeRuneInString(r.text[r.at:])
		if c == utf8.RuneError && size == 1 {
			r.refuse(ErrWord)
		}
		text = utf8.AppendRune(text, c)
		r.at += size
	}
	r.at++
	if len(text) > mostText {
		r.refuse(ErrLimit)
	}
	r.next.term = Term{Kind: kindString, Text: string(text)}
}

// readEscape tells what is meant by what stands behind a backslash.
func (r *reader) readEscape() rune {
	for _, e := range escapes {
		if e.letter == r.peek() {
			r.at++
			return rune(e.meant)
		}
	}
	if r.peek() != 'u' {
		r.refuse(ErrWord)
	}
	r.at++
	return r.readCodePoint()
}

func (r *reader) readCodePoint() rune {
	var c rune
	for range 4 {
		if !isHex(r.peek()) {
			r.refuse(ErrWord)
		}
		c = c<<4 | rune(hexValue(r.peek()))
		r.at++
	}
	if !utf8.ValidRune(c) {
		r.refuse(ErrWord)
	}
	return c
}

func (r *reader) readMark() {
	for _, mark := range marks {
		if strings.HasPrefix(r.text[r.at:], mark) {
			r.at += len(mark)
			r.next.text = mark
			return
		}
	}
	r.refuse(ErrWord)
}

func isBlank(c byte) bool { return c == ' ' || c == '\t' || c == '\n' || c == '\r' }

func isWithinLine(c byte) bool { return c != '\n' }

func isSmall(c byte) bool { return 'a' <= c && c <= 'z' }

func isDigit(c byte) bool { return '0' <= c && c <= '9' }

func isWithinName(c byte) bool { return isSmall(c) || isDigit(c) || c == '_' }

func isHex(c byte) bool { return isDigit(c) || 'a' <= c && c <= 'f' }

// hexValue tells what a digit that isHex stands for.
func hexValue(c byte) byte {
	if isDigit(c) {
		return c - '0'
	}
	return c - 'a' + 10
}
