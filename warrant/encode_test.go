package warrant_test

import (
	"encoding/hex"
	"strings"
	"testing"

	"warrant/plain"
	"warrant/warrant"
)

// unhex makes bytes of digits, with blanks between them.
func unhex(t *testing.T, digits string) string {
	t.Helper()
	b, err := hex.DecodeString(strings.ReplaceAll(digits, " ", ""))
	if err != nil {
		t.Fatal(err)
	}
	return string(b)
}

// forms are blocks, and their bytes: for Encode one way, for Decode the other.
func forms() []struct {
	block warrant.Block
	bytes string
} {
	x, y, one := variable("x"), variable("y"), number(1)
	q := atom("q")
	return []struct {
		block warrant.Block
		bytes string
	}{
		{warrant.Block{}, "00 00 00"},
		{facts(atom("a", number(-1))), "01 0161 01 0201 00 00"},
		{facts(atom("ab"), atom("c")), "02 026162 00 0163 00 00 00"},
		{facts(atom(strings.Repeat("p", 16))), "01 10" + strings.Repeat("70", 16) + "00 00 00"},
		{facts(atom("p", number(0), number(-1), one, number(-2), number(2), number(63))), "01 0170 06 0200 0201 0202 0203 0204 027e 00 00"},
		{facts(atom("p", number(-64), number(64), number(-65), number(8191), number(-8192), number(8192))), "01 0170 06 027f 028001 028101 02fe7f 02ff7f 02808001 00 00"},
		{facts(atom("p", number(1<<63-1), number(-1<<63), number(1<<62), number(-1<<62), number(1<<62-1))), "01 0170 05 02feffffffffffffffff01 02ffffffffffffffffff01 0280808080808080808001 02ffffffffffffffff7f 02feffffffffffffff7f 00 00"},
		{facts(atom("p", date(300), date(-1), date(-1<<63))), "01 0170 03 05d804 0501 05ffffffffffffffffff01 00 00"},
		{facts(atom("p", truth(0), truth(1))), "01 0170 02 0600 0601 00 00"},
		{facts(atom("p", text(""), text("é"), raw(""), raw("\x00\xff"))), "01 0170 04 0300 0302c3a9 0400 040200ff 00 00"},
		{facts(atom("p", text(strings.Repeat("s", 64)))), "01 0170 01 0340" + strings.Repeat("73", 64) + "00 00"},
		{facts(atom("p", list(), list(one, list(list(), text("x"))))), "01 0170 02 0700 0702 0202 0702 0700 030178 00 00"},
		{rules(warrant.Rule{Head: atom("p", x), Body: atoms(atom("q", y, x), q), Guards: []warrant.Guard{guard(x, 7, y)}}), "00 01 0170 01 010178 02 0171 02 010179 010178 0171 00 01 07 010178 010179 00"},
		{rules(warrant.Rule{Head: q, Guards: []warrant.Guard{guard(one, 1, truth(1)), guard(one, 2, list())}}), "00 01 0171 00 00 02 01 0202 0601 02 0202 0700 00"},
		{check(body(atoms(q)), body(nil, guard(one, 3, number(2)))), "00 00 01 02 01 0171 00 00 00 01 03 0202 0204"},
		{warrant.Block{
			Facts:  atoms(q, atom("r")),
			Rules:  []warrant.Rule{{Head: q, Body: atoms(q)}, {Head: atom("s"), Body: atoms(q)}},
			Checks: []warrant.Check{{Either: []warrant.Rule{body(atoms(q))}}, {Either: []warrant.Rule{body(atoms(atom("t")))}}},
		}, "02 0171 00 0172 00 02 0171 00 01 0171 00 00 0173 00 01 0171 00 00 02 01 01 0171 00 00 01 01 0174 00 00"},
	}
}

func TestEncode(t *testing.T) {
	for _, c := range forms() {
		want := unhex(t, c.bytes)
		if got, err := warrant.Encode(c.block); err != nil || got != want {
			t.Errorf("P8: %+v: %s %x, want %x", c.block, told(err), got, want)
		}
		if got, reason := plain.Encode(c.block); reason != 0 || got != want {
			t.Errorf("P8: %+v, by plain: %d %x, want %x", c.block, reason, got, want)
		}
	}
}

// sized is a block of that many bytes, from 3,994 to 4,058: two facts of five lists, each of 398 bytes, and one that fills the rest.
func sized(size int) warrant.Block {
	long := list(same(6, raw(strings.Repeat("x", 64)))...)
	full := atom("p", same(5, long)...)
	return facts(full, full, atom("p", raw(strings.Repeat("y", size-3_994))))
}

func TestEncodeLimit(t *testing.T) {
	for _, size := range []int{3_998, 3_999, 4_000} {
		if got, err := warrant.Encode(sized(size)); err != nil || len(got) != size {
			t.Errorf("P8: %d bytes: %s %d", size, told(err), len(got))
		}
	}
	for _, size := range []int{4_001, 4_002} {
		b := sized(size)
		if got, err := warrant.Encode(b); told(err) != "limit" || got != "" {
			t.Errorf("P8: %d bytes: %s %d, want limit", size, told(err), len(got))
		}
		if _, err := warrant.Print(b); err != nil {
			t.Errorf("P7: %d bytes in the other form: %s", size, told(err))
		}
		b.Checks = []warrant.Check{{}}
		if got, err := warrant.Encode(b); told(err) != "form" || got != "" {
			t.Errorf("P8: %d bytes, and a wrong check: %s, want form", size, told(err))
		}
	}
}

// All that may be: far more bytes than there may be, and still an answer.
func TestEncodeGreatest(t *testing.T) {
	great := raw(strings.Repeat("x", 64))
	for range 3 {
		great = list(same(6, great)...)
	}
	b := facts(same(24, atom("p", same(6, great)...))...)
	if got, err := warrant.Encode(b); told(err) != "limit" || got != "" {
		t.Errorf("P8: the greatest facts: %s, want limit", told(err))
	}
}
