package sums

import (
	"crypto/hmac"
	"crypto/sha256"
	"encoding/hex"
	"strings"
	"testing"
)

func shown(s Sum) string { return hex.EncodeToString(s[:]) }

// numbered makes a text of n bytes, no two neighbours of which are the same.
func numbered(n int) string {
	text := make([]byte, n)
	for i := range text {
		text[i] = byte(i*7 + i/256)
	}
	return string(text)
}

// The examples of FIPS 180-4, and the empty text.
func TestOfKnown(t *testing.T) {
	for text, want := range map[string]string{
		"":    "e3b0c44298fc1c149afbf4c8996fb92427ae41e4649b934ca495991b7852b855",
		"abc": "ba7816bf8f01cfea414140de5dae2223b00361a396177a9cb410ff61f20015ad",
		"abcdbcdecdefdefgefghfghighijhijkijkljklmklmnlmnomnopnopq": "248d6a61d20638b8e5c026930c3e6039a33ce45964ff2167f6ecedd419db06c1",
		strings.Repeat("a", 1_000_000):                             "cdc76e5c9914fb9281a1c7e284d73e67f1809a48a497200e046d39ccc7112cd0",
	} {
		if got := shown(Of(text)); got != want {
			t.Errorf("P3: the sum of %d bytes: %s, want %s", len(text), got, want)
		}
	}
}

// Every length around the edges at which the closing takes one more chunk.
func TestOfEveryLength(t *testing.T) {
	for n := range 300 {
		text := numbered(n)
		if got, want := Of(text), sha256.Sum256([]byte(text)); got != want {
			t.Errorf("P3: the sum of %d bytes: %x, want %x", n, got, want)
		}
	}
}

func TestOfTextsBehindEachOther(t *testing.T) {
	whole := numbered(200)
	want := Of(whole)
	for i := range len(whole) {
		if got := Of(whole[:i], "", whole[i:]); got != want {
			t.Errorf("P3: cut at %d: %x, want %x", i, got, want)
		}
	}
	if Of() != Of("") {
		t.Error("P3: no text at all is not summed as an empty one")
	}
}

// The examples of RFC 4231 (the fifth, which is cut short, left out).
func TestKeyedKnown(t *testing.T) {
	for _, c := range []struct{ key, text, want string }{
		{strings.Repeat("\x0b", 20), "Hi There", "b0344c61d8db38535ca8afceaf0bf12b881dc200c9833da726e9376c2e32cff7"},
		{"Jefe", "what do ya want for nothing?", "5bdcc146bf60754e6a042426089575c75a003f089d2739839dec58b964ec3843"},
		{strings.Repeat("\xaa", 20), strings.Repeat("\xdd", 50), "773ea91e36800e46854db8ebd09181a72959098b3ef8c122d9635514ced565fe"},
		{"\x01\x02\x03\x04\x05\x06\x07\x08\x09\x0a\x0b\x0c\x0d\x0e\x0f\x10\x11\x12\x13\x14\x15\x16\x17\x18\x19", strings.Repeat("\xcd", 50), "82558a389a443c0ea4cc819899f2083a85f0faa3e578f8077a2e3ff46729665b"},
		{strings.Repeat("\xaa", 131), "Test Using Larger Than Block-Size Key - Hash Key First", "60e431591ee0b67f0d8a26aacbf5b77f8e0bc6213728c5140546040f0ee37f54"},
		{strings.Repeat("\xaa", 131), "This is a test using a larger than block-size key and a larger than block-size data. The key needs to be hashed before being used by the HMAC algorithm.", "9b09ffa71b942fcb27635fbcd5b0e944bfdc63644f0713938a7f51535c3a35e2"},
	} {
		if got := shown(Keyed(c.key, c.text)); got != c.want {
			t.Errorf("P3: key of %d bytes, %q: %s, want %s", len(c.key), c.text, got, c.want)
		}
	}
}

// Keys of up to 64 bytes count as they are, longer ones as their sums.
func TestKeyedEveryKeyLength(t *testing.T) {
	for n := range 200 {
		key := numbered(n)
		h := hmac.New(sha256.New, []byte(key))
		h.Write([]byte("one behind the other"))
		want := Sum(h.Sum(nil))
		for _, texts := range [][]string{{"one behind the other"}, {"one ", "behind", "", " the other"}} {
			if got := Keyed(key, texts...); got != want {
				t.Errorf("P3: key of %d bytes, %q: %x, want %x", n, texts, got, want)
			}
		}
	}
}

// The list of texts is the caller's: spare room in it too.
func TestKeyedLeavesTextsAlone(t *testing.T) {
	room := []string{"a", "b", "c"}
	Keyed("key", room[:1]...)
	if room[0] != "a" || room[1] != "b" || room[2] != "c" {
		t.Errorf("P2: the list that came in was changed: %q", room)
	}
}
