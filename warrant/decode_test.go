package warrant_test

import (
	"math/rand/v2"
	"reflect"
	"slices"
	"strings"
	"testing"

	"warrant/plain"
	"warrant/warrant"
)

func TestDecode(t *testing.T) {
	for _, c := range forms() {
		text := unhex(t, c.bytes)
		if got, err := warrant.Decode(text); err != nil || !reflect.DeepEqual(got, c.block) {
			t.Errorf("P9: %x: %s %+v, want %+v", text, told(err), got, c.block)
		}
		if got, reason := plain.Decode(text); reason != 0 || !reflect.DeepEqual(got, c.block) {
			t.Errorf("P9: %x, by plain: %d %+v, want %+v", text, reason, got, c.block)
		}
		for i := range len(text) {
			decodesTo(t, text[:i], "short")
		}
		decodesTo(t, text+"\x00", "bytes")
		decodesTo(t, text+"\xff\xff", "bytes")
	}
}

// decodesTo: the bytes are refused for that reason, and nothing else is answered.
func decodesTo(t *testing.T, text, want string) {
	t.Helper()
	if got, err := warrant.Decode(text); told(err) != want || !reflect.DeepEqual(got, warrant.Block{}) {
		t.Errorf("P9: %x: %s %+v, want %s and nothing", text, told(err), got, want)
	}
}

func decodeRefused(t *testing.T, want string, digits ...string) {
	t.Helper()
	for _, d := range digits {
		decodesTo(t, unhex(t, d), want)
	}
}

// Wherever a number stands, it has one form: few bytes, at most 64 bits.
func TestDecodeNumbers(t *testing.T) {
	for _, ahead := range []string{"", "00", "00 00", "01", "01 0161", "01 0161 01 02", "01 0161 01 05", "01 0161 01 03", "01 0161 01 07", "00 01 0161 00", "00 01 0161 00 00", "00 00 01", "00 00 01 01", "00 00 01 01 00"} {
		for _, n := range []string{"80 00", "8000 00", "ff 00", "8080 00", "80808080808080808000", "ffffffffffffffffff00"} {
			decodeRefused(t, "bytes", ahead+n, ahead+n+"0000")
		}
		for _, n := range []string{"ffffffffffffffffff02", "80808080808080808002", "ffffffffffffffffff7f", "ffffffffffffffffff80", "80808080808080808080", "80808080808080808081", "8080808080808080808001", "ffffffffffffffffffff", "ffffffffffffffffffff01"} {
			decodeRefused(t, "bytes", ahead+n, ahead+n+"0000")
		}
		for _, n := range []string{"", "80", "ff", "8080", "808080808080808080", "ffffffffffffffffff"} {
			decodeRefused(t, "short", ahead+n)
		}
	}
}

func TestDecodeLimits(t *testing.T) {
	for _, c := range []struct{ ahead, fine, over string }{
		{"", "18", "19"},
		{"00", "18", "19"},
		{"00 00", "18", "19"},
		{"01 0161", "06", "07"},
		{"01 0161 01 07", "06", "07"},
		{"01 0161 01 07 01 07 01 07", "06", "07"},
		{"00 01 0161", "06", "07"},
		{"00 01 0161 00", "04", "05"},
		{"00 01 0161 00 00", "04", "05"},
		{"00 01 0161 00 01 0161", "06", "07"},
		{"00 01 0161 00 00 01 01 07", "06", "07"},
		{"00 00 01", "04", "05"},
		{"00 00 01 01", "04", "05"},
		{"00 00 01 01 00", "04", "05"},
	} {
		decodeRefused(t, "short", c.ahead+c.fine)
		for _, n := range []string{c.over, "7f", "8001", "8002", "ffffffff0f", "80808080808080808001", "ffffffffffffffffff01"} {
			decodeRefused(t, "limit", c.ahead+n, c.ahead+n+"8000", c.ahead+n+"00000000")
		}
	}
}

func TestDecodeTerms(t *testing.T) {
	// no such kind: told at the kind, whatever is behind it
	decodeRefused(t, "bytes", "01 0161 01 00", "01 0161 01 08", "01 0161 01 09 00 00 00", "01 0161 01 80", "01 0161 01 81 01", "01 0161 01 ff", "01 0161 01 07 01 00", "01 0161 01 07 01 08 00 00 00", "00 00 01 01 00 01 01 00", "00 00 01 01 00 01 01 0200 08")
	// a list within three: told behind its kind
	decodeRefused(t, "deep", "01 0161 01 07 01 07 01 07 01 07", "01 0161 01 0701 0701 0701 0700 00 00", "01 0161 01 0701 0701 0701 07ff", "01 0161 01 0701 0701 0702 0200 07", "00 00 01 01 00 01 01 0701 0701 0701 07")
	decodeRefused(t, "short", "01 0161 01 07 01 07 01 07", "01 0161 01 0701 0701 0701", "01 0161 01 0701 0701 0702 0200")
	// texts that are longer than what is left
	decodeRefused(t, "short", "01 02 61", "01 ffffffffffffffffff01", "01 80808080808080808001 61", "01 0161 01 01 02 61", "01 0161 01 03 01", "01 0161 01 04 7f 00", "01 0161 01 03 ffffffffffffffffff01", "01 0161 01 03 8080808008", "01 0161 01 06", "00 00 01 01 00 01", "00 00 01 01 00 01 03", "00 00 01 01 00 01 03 02")
}

// What is read well, and is wrong all the same.
func TestDecodeWrong(t *testing.T) {
	long := "41" + strings.Repeat("73", 65)
	decodeRefused(t, "form", "01 0161 01 0602 00 00", "01 0161 01 06ff 00 00", "01 0161 01 0680 00 00", "01 00 00 00 00", "01 0141 00 00 00", "01 11"+strings.Repeat("70", 17)+"00 00 00", "01 0161 01 0301ff 00 00", "01 0161 01 0701 010178 00 00", "01 0161 01 0100 00 00", "00 01 0161 00 00 00 00", "00 01 0161 00 00 01 00 0202 0204 00", "00 01 0161 00 00 01 08 0202 0204 00", "00 01 0161 00 00 01 ff 0202 0204 00", "00 00 01 00", "00 00 01 01 00 00", "00 00 01 02 01 0162 00 00 00 00")
	decodeRefused(t, "free", "01 0161 01 010178 00 00", "00 01 0161 01 010178 01 0162 00 00 00", "00 01 0161 00 00 01 03 010178 0204 00", "00 00 01 01 01 0162 00 01 01 0204 010178")
	decodeRefused(t, "limit", "01 0161 01 03"+long+"00 00", "01 0161 01 04"+long+"00 00", "01 0161 01 0701 03"+long+"00 00")
	// the whole of the reading is ahead of what is wrong
	decodeRefused(t, "short", "01 0141 00 00", "01 0161 01 0602 00", "00 00 02 00")
	decodeRefused(t, "bytes", "01 0141 00 00 00 00", "01 0161 01 0602 00 00 00", "01 0141 00 00 8000", "00 00 01 00 00")
	decodeRefused(t, "limit", "01 0141 00 19", "01 0141 00 00 19", "01 0161 01 010178 00 01 05")
	decodeRefused(t, "deep", "01 0141 01 0701 0701 0701 07")
}

func TestDecodeLimit(t *testing.T) {
	for _, size := range []int{3_999, 4_000} {
		b := sized(size)
		encoded, err := warrant.Encode(b)
		if err != nil {
			t.Fatal(told(err))
		}
		if got, err := warrant.Decode(encoded); err != nil || !reflect.DeepEqual(got, b) {
			t.Errorf("P9: %d bytes: %s", size, told(err))
		}
	}
	decodesTo(t, strings.Repeat("\x00", 4_000), "bytes")
	for _, text := range []string{strings.Repeat("\x00", 4_001), strings.Repeat("\xff", 4_001), strings.Repeat("x", 1_000_000)} {
		decodesTo(t, text, "limit")
	}
}

// Deep bytes are not followed.
func TestDecodeDeep(t *testing.T) {
	decodesTo(t, unhex(t, "01 0161 01"+strings.Repeat("0701", 1_990)), "deep")
}

// What Encode makes, Decode reads as it was; and what Decode reads has no other form.
func TestOneForm(t *testing.T) {
	r := rand.New(rand.NewPCG(5, 6))
	for range 3_000 {
		b := randomBlock(r)
		encoded, err := warrant.Encode(b)
		if told(err) == "limit" {
			continue
		}
		if err != nil {
			t.Fatalf("P8: %+v: %s", b, told(err))
		}
		if again, err := warrant.Decode(encoded); err != nil || !reflect.DeepEqual(again, b) {
			t.Fatalf("P9: %x: %s %+v, want %+v", encoded, told(err), again, b)
		}
		for range 10 {
			hasOneForm(t, bent(r, encoded))
		}
	}
}

// bent: some byte is another, or left out, or there is one more.
func bent(r *rand.Rand, text string) string {
	i := r.IntN(len(text))
	l := []byte(text)
	switch r.IntN(3) {
	case 0:
		l[i] ^= 1 << r.IntN(8)
	case 1:
		l = slices.Delete(l, i, i+1)
	default:
		l = slices.Insert(l, i, []byte{0, 1, 7, 128, 255}[r.IntN(5)])
	}
	return string(l)
}

func hasOneForm(t *testing.T, text string) {
	t.Helper()
	b, err := warrant.Decode(text)
	switch told(err) {
	case "ok":
		if again, err := warrant.Encode(b); err != nil || again != text {
			t.Errorf("P9: %x is read, and is %x: %s", text, again, told(err))
		}
	case "short", "bytes", "limit", "deep", "form", "free":
		if !reflect.DeepEqual(b, warrant.Block{}) {
			t.Errorf("P1: %x: %s, and %+v", text, told(err), b)
		}
	default:
		t.Errorf("P9: %x: %s", text, told(err))
	}
}

func FuzzDecode(f *testing.F) {
	r := rand.New(rand.NewPCG(7, 8))
	for range 20 {
		if encoded, err := warrant.Encode(randomBlock(r)); err == nil {
			f.Add(encoded)
		}
	}
	f.Fuzz(hasOneForm)
}
