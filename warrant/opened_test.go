package warrant_test

import (
	"math/big"
	"strings"

	"warrant/warrant"
)

// parts are those of a token, or why P12 refuses it.
type parts struct {
	reason string
	sealed byte
	texts  []string
	tag    string
}

// plainNumber reads a number as P8 and P9 say it, without thought for its size: how many bytes it took, or the reason.
func plainNumber(text string) (*big.Int, int, string) {
	n := new(big.Int)
	for i := range len(text) {
		c := text[i]
		n.Add(n, new(big.Int).Lsh(big.NewInt(int64(c&127)), uint(7*i)))
		if i > 0 && c == 0 || n.BitLen() > 64 || i == 9 && c >= 128 {
			return nil, 0, "bytes"
		}
		if c < 128 {
			return n, i + 1, ""
		}
	}
	return nil, 0, "short"
}

// plainlyOpened is P12, said again word by word.
func plainlyOpened(text string) parts {
	if len(text) < 4 {
		return parts{reason: "short"}
	}
	if !strings.HasPrefix(text, "wrt1") {
		return parts{reason: "bytes"}
	}
	text = text[4:]
	if text == "" {
		return parts{reason: "short"}
	}
	found := parts{reason: "ok", sealed: text[0]}
	if found.sealed > 1 {
		return parts{reason: "bytes"}
	}
	text = text[1:]
	many, size, reason := plainNumber(text)
	switch {
	case reason != "":
		return parts{reason: reason}
	case many.Sign() == 0:
		return parts{reason: "bytes"}
	case many.Cmp(big.NewInt(8)) > 0:
		return parts{reason: "limit"}
	}
	text = text[size:]
	for range many.Int64() {
		length, size, reason := plainNumber(text)
		if reason != "" {
			return parts{reason: reason}
		}
		if length.Cmp(big.NewInt(4_000)) > 0 {
			return parts{reason: "limit"}
		}
		text = text[size:]
		n := int(length.Int64())
		if len(text) < n {
			return parts{reason: "short"}
		}
		if _, err := warrant.Decode(text[:n]); err != nil {
			return parts{reason: told(err)}
		}
		found.texts = append(found.texts, text[:n])
		text = text[n:]
	}
	switch {
	case len(text) < 32:
		return parts{reason: "short"}
	case len(text) > 32:
		return parts{reason: "bytes"}
	}
	found.tag = text
	return found
}
