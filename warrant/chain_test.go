package warrant_test

import (
	"crypto/hmac"
	"crypto/sha256"
	"encoding/binary"
	"math/rand/v2"
	"reflect"
	"slices"
	"strings"
	"testing"

	"warrant/plain"
	"warrant/warrant"
)

// What tokens are held against: made of the document's words, by another library's sums.

func mac(key, text string) string {
	h := hmac.New(sha256.New, []byte(key))
	h.Write([]byte(text))
	return string(h.Sum(nil))
}

func sum(text string) string {
	s := sha256.Sum256([]byte(text))
	return string(s[:])
}

// framed is a token of such parts, right or not.
func framed(sealed byte, tag string, texts ...string) string {
	l := append([]byte("wrt1"), sealed)
	l = binary.AppendUvarint(l, uint64(len(texts)))
	for _, text := range texts {
		l = binary.AppendUvarint(l, uint64(len(text)))
		l = append(l, text...)
	}
	return string(l) + tag
}

// chained tells the token of a key and blocks, and of each block the tag that it had when it was the last.
func chained(key string, texts ...string) (string, []string) {
	var tags []string
	for _, text := range texts {
		key = mac(key, text)
		tags = append(tags, key)
	}
	return framed(0, key, texts...), tags
}

// sealedOf is chained's token, sealed.
func sealedOf(key string, texts ...string) string {
	_, tags := chained(key, texts...)
	return framed(1, mac(tags[len(tags)-1], "sealed"), texts...)
}

// encodedAll tells each block's bytes.
func encodedAll(t *testing.T, blocks ...warrant.Block) []string {
	t.Helper()
	var texts []string
	for _, b := range blocks {
		text, err := warrant.Encode(b)
		if err != nil {
			t.Fatal(told(err))
		}
		texts = append(texts, text)
	}
	return texts
}

// numbers are n small blocks, each another one.
func numbers(n int) []warrant.Block {
	var l []warrant.Block
	for i := range n {
		l = append(l, facts(atom("n", number(int64(i)))))
	}
	return l
}

// token is one of the key "key" and n small blocks.
func token(t *testing.T, n int) string {
	t.Helper()
	text, _ := chained("key", encodedAll(t, numbers(n)...)...)
	return text
}

// tells: a call that makes a token answers this one, or the reason and nothing.
func tells(t *testing.T, promise, got string, err error, want, reason string) {
	t.Helper()
	if told(err) != reason || got != want {
		t.Errorf("%s: %s %x, want %s %x", promise, told(err), got, reason, want)
	}
}

func TestMint(t *testing.T) {
	for _, key := range []string{"k", "key", "\x00", "\xff\xfe", strings.Repeat("k", 32), strings.Repeat("k", 64), strings.Repeat("k", 65), strings.Repeat("k", 99), strings.Repeat("k", 100), strings.Repeat("é", 50)} {
		for _, c := range forms() {
			want, _ := chained(key, unhex(t, c.bytes))
			got, err := warrant.Mint(key, c.block)
			tells(t, "P13", got, err, want, "ok")
			if got, reason := plain.Mint(key, c.block); got != want || reason != 0 {
				t.Errorf("P13: by plain: %d %x, want %x", reason, got, want)
			}
		}
	}
	got, err := warrant.Mint("k", warrant.Block{})
	tells(t, "P13", got, err, "wrt1\x00\x01\x03\x00\x00\x00"+mac("k", "\x00\x00\x00"), "ok")
}

func TestMintRefuses(t *testing.T) {
	wrong := facts(atom("P"))
	for _, key := range []string{"", strings.Repeat("k", 101), strings.Repeat("é", 51), strings.Repeat("k", 100_000)} {
		for _, b := range []warrant.Block{{}, wrong, sized(4_001)} {
			got, err := warrant.Mint(key, b)
			tells(t, "P13", got, err, "", "key")
		}
		if got, reason := plain.Mint(key, wrong); got != "" || reason != 8 {
			t.Errorf("P13: by plain: %d %x, want 8", reason, got)
		}
	}
	for _, c := range []judged{{wrong, "form"}, {facts(atom("p", variable("x"))), "free"}, {facts(same(25, atom("P"))...), "limit"}, {facts(atom("p", list(list(list(list()))))), "deep"}} {
		for _, key := range []string{"k", strings.Repeat("k", 100)} {
			got, err := warrant.Mint(key, c.block)
			tells(t, "P13", got, err, "", c.want)
		}
	}
}

// Blocks around where a length takes one more byte, and around the greatest there may be.
func TestTokenSizes(t *testing.T) {
	var blocks []warrant.Block
	for _, size := range []int{53, 54} {
		blocks = append(blocks, facts(atom("p", raw(strings.Repeat("x", 64)), raw(strings.Repeat("y", size)))))
	}
	blocks = append(blocks, sized(3_999), sized(4_000))
	texts := encodedAll(t, blocks...)
	if len(texts[0]) != 127 || len(texts[1]) != 128 || len(texts[3]) != 4_000 {
		t.Fatal("the test's blocks have other sizes:", len(texts[0]), len(texts[1]), len(texts[3]))
	}
	for i, b := range blocks {
		want, _ := chained("key", texts[i])
		got, err := warrant.Mint("key", b)
		tells(t, "P13", got, err, want, "ok")
		verifies(t, "key", got, b)
		want, _ = chained("key", texts[i], texts[i])
		got, err = warrant.Attenuate(got, b)
		tells(t, "P14", got, err, want, "ok")
		verifies(t, "key", got, b, b)
	}
	for _, size := range []int{4_001, 4_002} {
		got, err := warrant.Mint("key", sized(size))
		tells(t, "P13", got, err, "", "limit")
		got, err = warrant.Attenuate(token(t, 1), sized(size))
		tells(t, "P14", got, err, "", "limit")
	}
	// the greatest token of all
	great := same(8, sized(4_000))
	got, err := warrant.Attenuate(token(t, 1), great[1:]...)
	if err != nil {
		t.Fatal("P14:", told(err))
	}
	verifies(t, "key", got, append(numbers(1), great[1:]...)...)
}

// verifies: the key and the token tell these blocks, and the Sums of their tags; sealed, they do so too.
func verifies(t *testing.T, key, text string, blocks ...warrant.Block) {
	t.Helper()
	_, tags := chained(key, encodedAll(t, blocks...)...)
	var want []string
	for _, tag := range tags {
		want = append(want, sum(tag))
	}
	got, ids, err := warrant.Verify(key, text)
	if err != nil || !reflect.DeepEqual(got, blocks) || !slices.Equal(ids, want) {
		t.Errorf("P15: %s %+v %x, want %+v %x", told(err), got, ids, blocks, want)
	}
	got, ids, reason := plain.Verify(key, text)
	if reason != 0 || !reflect.DeepEqual(got, blocks) || !slices.Equal(ids, want) {
		t.Errorf("P15: by plain: %d %+v %x, want %+v %x", reason, got, ids, blocks, want)
	}
}

// unverified: the key and the text are refused for that reason, and nothing else is told.
func unverified(t *testing.T, key, text, want string) {
	t.Helper()
	if got, ids, err := warrant.Verify(key, text); told(err) != want || len(got) > 0 || len(ids) > 0 {
		t.Errorf("P15: %x: %s %+v %x, want %s", text, told(err), got, ids, want)
	}
}

func TestAttenuate(t *testing.T) {
	blocks := numbers(8)
	texts := encodedAll(t, blocks...)
	for from := 1; from <= 8; from++ {
		for to := from; to <= 8; to++ {
			want, _ := chained("key", texts[:to]...)
			got, err := warrant.Attenuate(token(t, from), blocks[from:to]...)
			tells(t, "P14", got, err, want, "ok")
			if got, reason := plain.Attenuate(token(t, from), blocks[from:to]); got != want || reason != 0 {
				t.Errorf("P14: by plain: %d %x, want %x", reason, got, want)
			}
			verifies(t, "key", got, blocks[:to]...)
		}
	}
	for _, c := range forms() {
		want, _ := chained("key", texts[0], unhex(t, c.bytes))
		got, err := warrant.Attenuate(token(t, 1), c.block)
		tells(t, "P14", got, err, want, "ok")
		verifies(t, "key", got, blocks[0], c.block)
	}
}

// One block behind the other is the same as both at once.
func TestAttenuateOneByOne(t *testing.T) {
	blocks := numbers(8)
	text, err := warrant.Mint("key", blocks[0])
	if err != nil {
		t.Fatal(told(err))
	}
	for i := 1; i < 8; i++ {
		if text, err = warrant.Attenuate(text, blocks[i]); err != nil {
			t.Fatal(told(err))
		}
		verifies(t, "key", text, blocks[:i+1]...)
	}
	tells(t, "P14", text, err, token(t, 8), "ok")
}

func TestAttenuateRefuses(t *testing.T) {
	fine, wrong, free, long := warrant.Block{}, facts(atom("P")), facts(atom("p", variable("x"))), sized(4_001)
	sealed := sealedOf("key", encodedAll(t, numbers(8)...)...)
	for i, c := range []struct {
		text   string
		blocks []warrant.Block
		want   string
	}{
		{token(t, 1), same(8, fine), "limit"},
		{token(t, 1), same(100_000, fine), "limit"},
		{token(t, 7), same(2, fine), "limit"},
		{token(t, 8), same(1, fine), "limit"},
		{token(t, 1), same(1, wrong), "form"},
		{token(t, 1), same(1, free), "free"},
		{token(t, 1), same(1, long), "limit"},
		// of each block in its turn: whether there is room, and whether it is right
		{token(t, 1), []warrant.Block{fine, wrong, free}, "form"},
		{token(t, 1), []warrant.Block{free, wrong}, "free"},
		{token(t, 1), []warrant.Block{fine, long, free}, "limit"},
		{token(t, 7), []warrant.Block{wrong, fine}, "form"},
		{token(t, 7), []warrant.Block{fine, wrong}, "limit"},
		{token(t, 8), same(1, wrong), "limit"},
		{token(t, 1), append(same(7, fine), wrong), "limit"},
		{token(t, 1), append(append(same(6, fine), wrong), fine), "form"},
		// that it is sealed is ahead of all that is said of blocks
		{sealed, nil, "sealed"},
		{sealed, same(1, fine), "sealed"},
		{sealed, same(1, wrong), "sealed"},
		{sealed, same(9, long), "sealed"},
		{sealedOf("key", "\x00\x00\x00"), nil, "sealed"},
		// a tag is not asked, nor can it be
		{framed(1, strings.Repeat("t", 32), "\x00\x00\x00"), nil, "sealed"},
		{framed(0, strings.Repeat("t", 32), "\x00\x00\x00"), same(1, wrong), "form"},
	} {
		if got, err := warrant.Attenuate(c.text, c.blocks...); told(err) != c.want || got != "" {
			t.Errorf("P14: case %d: %s %x, want %s", i, told(err), got, c.want)
		}
	}
}

func TestSeal(t *testing.T) {
	for n := 1; n <= 8; n++ {
		blocks := numbers(n)
		want := sealedOf("key", encodedAll(t, blocks...)...)
		got, err := warrant.Seal(token(t, n))
		tells(t, "P14", got, err, want, "ok")
		if got, reason := plain.Seal(token(t, n)); got != want || reason != 0 {
			t.Errorf("P14: by plain: %d %x, want %x", reason, got, want)
		}
		verifies(t, "key", got, blocks...)
		unverified(t, "kez", got, "tag")
		again, err := warrant.Seal(got)
		tells(t, "P14", again, err, "", "sealed")
		again, err = warrant.Attenuate(got, warrant.Block{})
		tells(t, "P14", again, err, "", "sealed")
	}
	// whatever its tag is, a token is sealed or not by its byte
	got, err := warrant.Seal(framed(1, strings.Repeat("t", 32), "\x00\x00\x00"))
	tells(t, "P14", got, err, "", "sealed")
}

// A token with another tag may be put behind, or sealed: it stays as bad as it was.
func TestBadTagsStay(t *testing.T) {
	empty, tag := "\x00\x00\x00", strings.Repeat("t", 32)
	text := framed(0, tag, empty)
	unverified(t, "key", text, "tag")
	got, err := warrant.Attenuate(text, numbers(1)...)
	more := encodedAll(t, numbers(1)...)[0]
	tells(t, "P14", got, err, framed(0, mac(tag, more), empty, more), "ok")
	unverified(t, "key", got, "tag")
	got, err = warrant.Seal(text)
	tells(t, "P14", got, err, framed(1, mac(tag, "sealed"), empty), "ok")
	unverified(t, "key", got, "tag")
}

func TestVerifyKeys(t *testing.T) {
	for _, key := range []string{"", strings.Repeat("k", 101), strings.Repeat("k", 100_000)} {
		text, _ := chained(key, "\x00\x00\x00")
		for _, text := range []string{text, "", "x", token(t, 8)} {
			unverified(t, key, text, "key")
		}
		if got, ids, reason := plain.Verify(key, text); got != nil || ids != nil || reason != 8 {
			t.Errorf("P15: by plain: %d %+v %x, want 8", reason, got, ids)
		}
	}
	keys := []string{"k", "K", "kk", "key", "\x01", strings.Repeat("k", 64), strings.Repeat("k", 65), strings.Repeat("k", 100)}
	for _, key := range keys {
		text, _ := chained(key, encodedAll(t, numbers(2)...)...)
		for _, other := range keys {
			if other == key {
				verifies(t, key, text, numbers(2)...)
			} else {
				unverified(t, other, text, "tag")
			}
		}
	}
}

// Who has a token, and not the tags ahead of its last one, can't take anything away.
func TestTagsBind(t *testing.T) {
	texts := encodedAll(t, numbers(4)...)
	a, b, c, d := texts[0], texts[1], texts[2], texts[3]
	_, tags := chained("key", a, b, c)
	last := tags[2]
	sealed := mac(last, "sealed")
	for i, text := range []string{
		framed(0, last, a, b), framed(0, last, a), framed(0, last, b, c), framed(0, last, a, c), framed(0, last, c), // left out
		framed(0, last, a, c, b), framed(0, last, b, a, c), framed(0, last, c, b, a), // in another order
		framed(0, last, a, b, d), framed(0, last, a, d, c), framed(0, last, d, b, c), // exchanged
		framed(0, last, a, b, c, d), framed(0, last, a, b, c, c), framed(0, last, d, a, b, c), // put there
		framed(0, tags[1], a, b, c), framed(0, tags[0], a, b, c), framed(0, "key"+strings.Repeat("\x00", 29), a), framed(0, strings.Repeat("\x00", 32), a, b, c),
		framed(1, last, a, b, c), framed(0, sealed, a, b, c), framed(1, sealed, a, b), framed(1, mac(sealed, "sealed"), a, b, c), framed(1, mac(last, "Sealed"), a, b, c), framed(1, mac("key", "sealed"), a, b, c),
		framed(0, mac("key", a+b+c), a, b, c), framed(0, mac("key", c), a, b, c), framed(0, sum(last), a, b, c),
	} {
		if _, _, err := warrant.Verify("key", text); told(err) != "tag" {
			t.Errorf("P15: case %d: %s, want tag", i, told(err))
		}
	}
	verifies(t, "key", framed(0, last, a, b, c), numbers(3)...)
	verifies(t, "key", framed(1, sealed, a, b, c), numbers(3)...)
	verifies(t, "key", framed(0, tags[1], a, b), numbers(2)...)
}

// Whatever comes behind them, blocks keep their Sums; so a list of what is revoked holds for all that is made of a token.
func TestSumsStay(t *testing.T) {
	blocks := numbers(3)
	first, err := warrant.Mint("key", blocks[0])
	if err != nil {
		t.Fatal(told(err))
	}
	_, before, _ := warrant.Verify("key", first)
	for _, more := range [][]warrant.Block{blocks[1:], same(2, blocks[0]), nil} {
		text, _ := warrant.Attenuate(first, more...)
		text, _ = warrant.Seal(text)
		_, ids, err := warrant.Verify("key", text)
		if err != nil || len(ids) != 1+len(more) || ids[0] != before[0] || len(ids) == 3 && (ids[1] == ids[0] || ids[2] == ids[1]) {
			t.Errorf("P15: %s %x, want the first to be %x, and all others other ones", told(err), ids, before)
		}
	}
}

// opensTo: whoever opens the text is told that reason: ahead of all that is wrong with blocks, but behind what is with the key.
func opensTo(t *testing.T, text, want string) {
	t.Helper()
	unverified(t, "key", text, want)
	unverified(t, "", text, "key")
	if got, err := warrant.Seal(text); told(err) != want || got != "" {
		t.Errorf("P12: %x, by Seal: %s %x, want %s", text, told(err), got, want)
	}
	for _, blocks := range [][]warrant.Block{nil, {{}}, {facts(atom("P"))}, same(9, sized(4_001))} {
		if got, err := warrant.Attenuate(text, blocks...); told(err) != want || got != "" {
			t.Errorf("P12: %x, by Attenuate: %s %x, want %s", text, told(err), got, want)
		}
	}
}

func TestTokensOpen(t *testing.T) {
	tag := strings.Repeat("74", 32)
	for _, c := range []struct{ digits, want string }{
		{"", "short"}, {"77", "short"}, {"777274", "short"}, {"777274 31", "short"},
		{"00", "short"}, {"000000", "short"}, // four bytes are wanted ahead of all, whatever they are
		{"00000000", "bytes"}, {"57727431", "bytes"}, {"77727432", "bytes"}, {"77727430 02", "bytes"}, {"31747277", "bytes"}, {"0077727431", "bytes"},
		{"00727431 00 01 03 000000" + tag, "bytes"}, {"77007431 00 01 03 000000" + tag, "bytes"}, {"77720031 00 01 03 000000" + tag, "bytes"}, {"77727400 00 01 03 000000" + tag, "bytes"}, {"77727431 00 01 03 000000" + tag[2:], "short"},
		{"77727431 02", "bytes"}, {"77727431 ff", "bytes"}, {"77727431 80", "bytes"}, {"77727431 30", "bytes"}, {"77727431 02 01 03 000000" + tag, "bytes"}, {"77727431 81 01 03 000000" + tag, "bytes"},
		{"77727431 00", "short"}, {"77727431 01", "short"},
		// how many blocks
		{"77727431 00 00", "bytes"}, {"77727431 01 00", "bytes"}, {"77727431 00 00" + tag, "bytes"}, {"77727431 00 00 03 000000" + tag, "bytes"},
		{"77727431 00 80", "short"}, {"77727431 00 8000", "bytes"}, {"77727431 00 8100", "bytes"}, {"77727431 00 8800 03 000000", "bytes"}, {"77727431 00 ffffffffffffffffff02", "bytes"}, {"77727431 00 ffffffffffffffffff", "short"}, {"77727431 00 80808080808080808080", "bytes"},
		{"77727431 00 09", "limit"}, {"77727431 00 0a 03", "limit"}, {"77727431 00 7f", "limit"}, {"77727431 01 8001", "limit"}, {"77727431 00 8802", "limit"}, {"77727431 00 ffffffffffffffffff01", "limit"}, {"77727431 00 88808010", "limit"}, {"77727431 00 09 ff", "limit"},
		{"77727431 00 08", "short"}, {"77727431 00 01", "short"},
		// how long a block is
		{"77727431 00 01 80", "short"}, {"77727431 00 01 8000", "bytes"}, {"77727431 00 01 8300 000000" + tag, "bytes"}, {"77727431 00 01 ffffffffffffffffff02", "bytes"}, {"77727431 00 01 8080808080808080808000", "bytes"},
		{"77727431 00 01 a11f", "limit"}, {"77727431 00 01 a21f 00", "limit"}, {"77727431 00 01 ffff7f", "limit"}, {"77727431 00 01 ffffffffffffffffff01", "limit"}, {"77727431 00 01 80808080808080808001", "limit"}, {"77727431 00 01 8380808010 000000" + tag, "limit"},
		{"77727431 00 01 a01f", "short"}, {"77727431 00 01 a01f 000000" + tag, "short"}, {"77727431 00 01 03 0000", "short"}, {"77727431 00 02 03 000000 7f" + tag, "short"}, {"77727431 00 02 03 000000 a11f" + tag, "limit"},
		// the block itself: nothing of it is taken from behind it, or left to what is
		{"77727431 00 01 00" + tag, "short"}, {"77727431 00 01 02 0000 00" + tag, "short"}, {"77727431 00 01 04 00000000" + tag, "bytes"}, {"77727431 00 01 01 80" + tag, "short"}, {"77727431 00 01 02 8000" + tag, "bytes"},
		{"77727431 00 01 01 19", "limit"}, {"77727431 00 01 01 19" + tag, "limit"}, {"77727431 00 01 08 0161 01 0602 0000" + tag, "short"}, {"77727431 00 01 08 01 0161 01 0602 0000" + tag, "form"}, {"77727431 01 01 08 01 0161 01 0602 0000", "form"},
		{"77727431 00 01 09 01 0161 01 010178 0000" + tag, "free"}, {"77727431 00 01 0b 01 0161 01 0701 0701 0701 07" + tag, "deep"}, {"77727431 00 01 05 01 0161 01 08" + tag, "bytes"},
		// from the left: what is wrong with one block is told ahead of the next
		{"77727431 00 02 06 01 0141 000000 8000", "form"}, {"77727431 00 02 06 01 0141 000000 a11f", "form"}, {"77727431 00 02 03 000000 06 01 0141 000000", "form"}, {"77727431 00 02 01 19 06 01 0141 000000", "limit"}, {"77727431 00 02 06 01 0141 000000 01 19", "form"}, {"77727431 00 08 06 01 0141 000000", "form"}, {"77727431 00 08 03 000000", "short"},
		// the tag, and its end
		{"77727431 00 01 03 000000", "short"}, {"77727431 00 01 03 000000 74", "short"}, {"77727431 01 01 03 000000" + tag[2:], "short"},
		{"77727431 00 01 03 000000" + tag + "00", "bytes"}, {"77727431 01 01 03 000000" + tag + "74", "bytes"}, {"77727431 01 01 03 000000" + tag + tag, "bytes"}, {"77727431 00 02 03 000000 03 000000" + tag + "00", "bytes"},
	} {
		opensTo(t, unhex(t, c.digits), c.want)
	}
	opensTo(t, token(t, 8)+strings.Repeat("x", 1_000_000), "bytes")
	opensTo(t, strings.Repeat("x", 1_000_000), "bytes")
}

// A block of more than 4,000 bytes is not looked into; one of 4,000 is.
func TestTokensOfLongBlocks(t *testing.T) {
	tag := strings.Repeat("t", 32)
	opensTo(t, framed(0, tag, strings.Repeat("\x00", 4_001)), "limit")
	opensTo(t, framed(0, tag, strings.Repeat("\x00", 4_000)), "bytes")
	opensTo(t, framed(0, tag, "\x00\x00\x00", strings.Repeat("\x00", 4_001)), "limit")
	opensTo(t, framed(0, tag, same(9, "\x00\x00\x00")...), "limit")
	opensTo(t, framed(0, tag), "bytes")
	unverified(t, "key", framed(0, tag, same(8, "\x00\x00\x00")...), "tag")
}

func TestTokensThatEnd(t *testing.T) {
	texts := encodedAll(t, numbers(8)...)
	long := encodedAll(t, sized(4_000))[0]
	for _, text := range []string{token(t, 1), token(t, 2), token(t, 8), sealedOf("key", texts...), sealedOf("key", texts[:1]...)} {
		for i := range len(text) {
			opensTo(t, text[:i], "short")
		}
		opensTo(t, text+"\x00", "bytes")
		opensTo(t, text+text, "bytes")
	}
	text, _ := chained("key", long, texts[0])
	for i := 0; i < len(text); i += 7 {
		opensTo(t, text[:i], "short")
	}
}

// asTold: what opens a text is told as plainlyOpened has it, by all that open one.
func asTold(t *testing.T, text string) {
	t.Helper()
	want := plainlyOpened(text)
	if want.reason != "ok" {
		opensTo(t, text, want.reason)
		return
	}
	reason := "tag"
	if token, _ := chained("key", want.texts...); want.sealed == 0 && text == token || want.sealed == 1 && text == sealedOf("key", want.texts...) {
		reason = "ok"
	}
	if _, _, err := warrant.Verify("key", text); told(err) != reason {
		t.Errorf("P15: %x: %s, want %s", text, told(err), reason)
	}
	more := "\x00\x00\x00"
	longer, ended, barred := framed(0, mac(want.tag, more), append(want.texts, more)...), framed(1, mac(want.tag, "sealed"), want.texts...), "ok"
	if len(want.texts) == 8 {
		longer, barred = "", "limit"
	}
	got, err := warrant.Seal(text)
	if want.sealed == 1 {
		longer, barred = "", "sealed"
		tells(t, "P14", got, err, "", "sealed")
	} else {
		tells(t, "P14", got, err, ended, "ok")
	}
	got, err = warrant.Attenuate(text, warrant.Block{})
	tells(t, "P14", got, err, longer, barred)
}

// A byte exchanged at each place, for each other one: a bad tag, or malformed.
func TestTokensExchanged(t *testing.T) {
	texts := encodedAll(t, numbers(2)...)
	texts = append(texts, encodedAll(t, check(body(atoms(atom("q")))))...)
	plainOne, _ := chained("key", texts...)
	for _, text := range []string{plainOne, sealedOf("key", texts[2:]...)} {
		for i := range len(text) {
			for mask := 1; mask < 256; mask++ {
				l := []byte(text)
				l[i] ^= byte(mask)
				_, _, err := warrant.Verify("key", string(l))
				if err == nil || i >= len(text)-32 && told(err) != "tag" || i < 4 && told(err) != "bytes" {
					t.Errorf("P15: byte %d of %x exchanged: %s", i, text, told(err))
				}
				if mask&(mask-1) == 0 || mask == 255 {
					asTold(t, string(l))
				}
			}
		}
	}
}

// randomToken is one of some blocks and the key "key", perhaps sealed.
func randomToken(r *rand.Rand) string {
	var texts []string
	for range 1 + r.IntN(3) {
		if text, err := warrant.Encode(randomBlock(r)); err == nil {
			texts = append(texts, text)
		}
	}
	if texts == nil {
		texts = []string{"\x00\x00\x00"}
	}
	if r.IntN(3) == 0 {
		return sealedOf("key", texts...)
	}
	text, _ := chained("key", texts...)
	return text
}

func TestTokensRandom(t *testing.T) {
	r := rand.New(rand.NewPCG(13, 14))
	for range 500 {
		text := randomToken(r)
		asTold(t, text)
		for range 6 {
			asTold(t, bent(r, text))
		}
		// where the frame is, and not only somewhere in the blocks
		head := bent(r, text[:min(9, len(text))])
		asTold(t, head+text[min(9, len(text)):])
	}
}

func FuzzOpen(f *testing.F) {
	r := rand.New(rand.NewPCG(15, 16))
	for range 20 {
		f.Add(randomToken(r))
	}
	f.Fuzz(asTold)
}

// The document's examples 9 and 10.
func TestTokenExamples(t *testing.T) {
	first, second := parsed(t, `right("a");`), parsed(t, `check if time($t), $t < @5;`)
	text, err := warrant.Mint("key", first)
	if err != nil {
		t.Fatal(told(err))
	}
	unverified(t, "key", text[:10]+"\x00"+text[11:], "form")
	unverified(t, "key", strings.Replace(text, `a`, `b`, 1), "tag")
	longer, err := warrant.Attenuate(text, second)
	if err != nil {
		t.Fatal(told(err))
	}
	verifies(t, "key", longer, first, second)
	texts := encodedAll(t, first)
	unverified(t, "key", framed(0, longer[len(longer)-32:], texts...), "tag")
	sealed, err := warrant.Seal(longer)
	if err != nil {
		t.Fatal(told(err))
	}
	got, err := warrant.Attenuate(sealed, second)
	tells(t, "P14", got, err, "", "sealed")
	verifies(t, "key", sealed, first, second)
}
