package warrant_test

import (
	"crypto/hmac"
	"crypto/sha256"
	"encoding/hex"
	"errors"
	"strings"
	"testing"

	"warrant/plain"
	"warrant/warrant"
)

func TestSum(t *testing.T) {
	for _, c := range []struct{ text, want string }{
		{"", "e3b0c44298fc1c149afbf4c8996fb92427ae41e4649b934ca495991b7852b855"},
		{"abc", "ba7816bf8f01cfea414140de5dae2223b00361a396177a9cb410ff61f20015ad"},
		{strings.Repeat("a", 1_000_000), "cdc76e5c9914fb9281a1c7e284d73e67f1809a48a497200e046d39ccc7112cd0"},
	} {
		if got := hex.EncodeToString([]byte(warrant.Sum(c.text))); got != c.want {
			t.Errorf("P3: Sum of %d bytes: %s, want %s", len(c.text), got, c.want)
		}
	}
}

func TestMac(t *testing.T) {
	for _, key := range []string{"", "key", strings.Repeat("k", 64), strings.Repeat("k", 65), "\xff\x00"} {
		for _, texts := range [][]string{nil, {""}, {"sealed"}, {"sea", "", "led"}} {
			h := hmac.New(sha256.New, []byte(key))
			h.Write([]byte(strings.Join(texts, "")))
			want := string(h.Sum(nil))
			if got := warrant.Mac(key, texts...); got != want {
				t.Errorf("P3: Mac(%q, %q): %x, want %x", key, texts, got, want)
			}
			if got := plain.Mac(key, texts); got != want {
				t.Errorf("P3: plain.Mac(%q, %q): %x, want %x", key, texts, got, want)
			}
		}
	}
}

func TestReasons(t *testing.T) {
	for k := range 10 {
		for _, wrapped := range []bool{false, true} {
			at := -1
			if wrapped {
				at = 7
			}
			if gotN, gotAt, hasText := plain.Reason(k, wrapped); gotN != k+1 || gotAt != at || !hasText {
				t.Errorf("Words: reason %d, wrapped %v: %d, %d, %v", k, wrapped, gotN, gotAt, hasText)
			}
		}
	}
}

func TestFault(t *testing.T) {
	for _, reason := range []error{
		warrant.ErrWord, warrant.ErrForm, warrant.ErrDeep, warrant.ErrLimit, warrant.ErrFree,
		warrant.ErrShort, warrant.ErrBytes, warrant.ErrKey, warrant.ErrSealed, warrant.ErrTag,
	} {
		f := &warrant.Fault{At: 12, Err: reason}
		if f.Unwrap() != reason {
			t.Errorf("Words: Unwrap of a Fault is %v, want its Err, %v", f.Unwrap(), reason)
		}
		if !strings.Contains(f.Error(), "12") || !strings.Contains(f.Error(), reason.Error()) {
			t.Errorf("Words: a Fault does not tell its place and its reason, %v: %q", reason, f.Error())
		}
	}
	other := errors.New("another error")
	if f := (&warrant.Fault{Err: other}); f.Unwrap() != other || f.Error() == "" {
		t.Errorf("Words: a Fault of another error: %v, %q", f.Unwrap(), f.Error())
	}
}

// Faults that nobody should make still answer.
func TestFaultOdd(t *testing.T) {
	var none *warrant.Fault
	circle := &warrant.Fault{}
	circle.Err = circle
	for _, f := range []*warrant.Fault{none, {}, {Err: none}, circle} {
		if f.Error() == "" {
			t.Error("P1: a Fault without a text")
		}
	}
	if none.Unwrap() != nil || (&warrant.Fault{}).Unwrap() != nil {
		t.Error("P1: a Fault of nothing wraps something")
	}
}
