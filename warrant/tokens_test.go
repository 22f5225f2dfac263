package warrant_test

import (
	"reflect"
	"strings"
	"testing"

	"warrant/warrant"
)

// Each term that is one token (or two words), as it stands in a fact.
func TestTermTokens(t *testing.T) {
	s := strings.Repeat
	for _, c := range []struct {
		text string
		want warrant.Term
	}{
		{"0", number(0)},
		{"-1", number(-1)},
		{"10", number(10)},
		{"9223372036854775807", number(9223372036854775807)},
		{"-9223372036854775808", number(-9223372036854775808)},
		{"@0", date(0)},
		{"@5", date(5)},
		{"@-5", date(-5)},
		{"@9223372036854775807", date(9223372036854775807)},
		{"@-9223372036854775808", date(-9223372036854775808)},
		{"true", truth(1)},
		{"false", truth(0)},
		{"hex:", raw("")},
		{"hex:0123456789abcdef", raw("\x01\x23\x45\x67\x89\xab\xcd\xef")},
		{"hex:ff00", raw("\xff\x00")},
		{"hex:" + s("a0", 64), raw(s("\xa0", 64))},
		{`""`, text("")},
		{`"a b"`, text("a b")},
		{`"// no note"`, text("// no note")},
		{`"\"\\\n\t\r"`, text("\"\\\n\t\r")},
		{`"a\"b"`, text(`a"b`)},
		{`"\\"`, text(`\`)},
		{`"\u0041\u00e9\u20ac"`, text("Aé€")},
		{`"\u0000\ud7ff\ue000\uffff"`, text("\x00\ud7ff\ue000\uffff")},
		{`"\u00410"`, text("A0")},
		{"\"\x00\x01\t\r\x7f\"", text("\x00\x01\t\r\x7f")},
		{"\"é€😀\"", text("é€😀")},
		{"\"\ufffd\"", text("\ufffd")},
		{`"` + s("s", 64) + `"`, text(s("s", 64))},
		{`"` + s("é", 32) + `"`, text(s("é", 32))},
		{`"` + s(`\n`, 64) + `"`, text(s("\n", 64))},
		{`"` + s(`\u0041`, 64) + `"`, text(s("A", 64))},
		{`"` + s("s", 61) + `\u20ac"`, text(s("s", 61) + "€")},
	} {
		b, err := warrant.Parse("p(" + c.text + ");")
		if want := facts(atom("p", c.want)); err != nil || !reflect.DeepEqual(b, want) {
			t.Errorf("P5: %q: %s %v, want %v", c.text, told(err), b, want)
		}
	}
}

// Each token that may not be, at byte 2 of a fact.
func TestTermTokensRefused(t *testing.T) {
	s := strings.Repeat
	for _, c := range []struct{ text, want string }{
		{"-", "word"},
		{"-x", "word"},
		{"--1", "word"},
		{"- 1", "word"},
		{"00", "word"},
		{"007", "word"},
		{"-0", "word"},
		{"-00", "word"},
		{"-01", "word"},
		{"9223372036854775808", "word"},
		{"-9223372036854775809", "word"},
		{s("9", 400), "word"},
		{"@", "word"},
		{"@ 1", "word"},
		{"@x", "word"},
		{"@@1", "word"},
		{"@-", "word"},
		{"@-0", "word"},
		{"@01", "word"},
		{"@9223372036854775808", "word"},
		{"hex:0", "word"},
		{"hex:0A", "word"},
		{"hex:000", "word"},
		{"hex:" + s("0", 129), "word"},
		{"hex:" + s("00", 65), "limit"},
		{"hex:" + s("0", 131), "word"},
		{"hex", "form"},
		{"hex :00", "form"},
		{"hexx:00", "form"},
		{"truely", "form"},
		{"check", "form"},
		{s("n", 16), "form"},
		{s("n", 17), "limit"},
		{"hex" + s("0", 14) + ":", "limit"},
		{"$", "word"},
		{"$ x", "word"},
		{"$1", "word"},
		{"$_", "word"},
		{"$X", "word"},
		{"$é", "word"},
		{"$1" + s("v", 15), "word"},
		{"$1" + s("v", 16), "limit"},
		{"$" + s("v", 17), "limit"},
		{`"`, "word"},
		{`"a`, "word"},
		{`"a\`, "word"},
		{`"a\"`, "word"},
		{"\"a\nb\"", "word"},
		{"\"a\\\nb\"", "word"},
		{`"\x"`, "word"},
		{`"\N"`, "word"},
		{`"\/"`, "word"},
		{`"\u"`, "word"},
		{`"\u004"`, "word"},
		{`"\u004g"`, "word"},
		{`"\u00E9"`, "word"},
		{`"\U0041"`, "word"},
		{`"\ud800"`, "word"},
		{`"\udfff"`, "word"},
		{`"\ud83d\ude00"`, "word"},
		{`"\u00`, "word"},
		{"\"\xff\"", "word"},
		{"\"\xc3\"", "word"},
		{"\"\x80\"", "word"},
		{"\"\xc0\x80\"", "word"},
		{"\"\xed\xa0\x80\"", "word"},
		{"\"\xf4\x90\x80\x80\"", "word"},
		{"\"\xe2\x82\\u00ac\"", "word"},
		{`"` + s("s", 65) + `"`, "limit"},
		{`"` + s("s", 63) + `é"`, "limit"},
		{`"` + s(`\n`, 65) + `"`, "limit"},
		{`"` + s("s", 65), "word"},
		{`"` + s("s", 65) + `\x"`, "word"},
		{`"` + s("s", 65) + "\xff\"", "word"},
		{"/", "word"},
		{"=", "word"},
		{"!", "word"},
		{"^", "word"},
		{":", "word"},
		{"_a", "word"},
		{"A", "word"},
		{"+1", "word"},
		{"'a'", "word"},
		{"é", "word"},
		{"\x00", "word"},
		{"\x0b", "word"},
		{"\x0c", "word"},
		{"\xff", "word"},
		{"<-", "form"},
		{"==", "form"},
		{"(", "form"},
	} {
		b, err := warrant.Parse("p(" + c.text + ");")
		if got := told(err); got != c.want+" at 2" || !reflect.DeepEqual(b, warrant.Block{}) {
			t.Errorf("P5: %q: %s %v, want %s at 2 and nothing", c.text, got, b, c.want)
		}
	}
}

// What each byte begins, alone between the brackets of a fact.
func TestEveryByte(t *testing.T) {
	for c := range 256 {
		one := string([]byte{byte(c)})
		want := "word at 2"
		switch {
		case strings.Contains("0123456789 \t\n\r", one):
			want = "ok"
		case strings.Contains("abcdefghijklmnopqrstuvwxyz<>(],;", one):
			want = "form at 2"
		case strings.Contains("[)", one):
			want = "form at 3"
		}
		if _, err := warrant.Parse("p(" + one + ");"); told(err) != want {
			t.Errorf("P5: byte %d: %s, want %s", c, told(err), want)
		}
	}
}

// Which bytes a name goes on with; the others begin a token of their own.
func TestEveryByteOfAName(t *testing.T) {
	for c := range 256 {
		one := string([]byte{byte(c)})
		want := "word at 1"
		switch {
		case strings.Contains("abcdefghijklmnopqrstuvwxyz0123456789_ \t\n\r", one):
			want = "ok"
		case strings.Contains("<>)[],;", one):
			want = "form at 1"
		case one == "(":
			want = "form at 2"
		}
		if _, err := warrant.Parse("p" + one + "();"); told(err) != want {
			t.Errorf("P5: byte %d: %s, want %s", c, told(err), want)
		}
	}
}

// Where one token ends and the next begins without a blank: the longest that may be.
func TestTokensTouching(t *testing.T) {
	for _, c := range []struct{ text, want string }{
		{"p(1a);", "form at 3"},
		{"p(1-2);", "form at 3"},
		{"p(1_0);", "word at 3"},
		{"p(0x1);", "form at 3"},
		{"p(1.5);", "word at 3"},
		{"p(hex:00g);", "form at 8"},
		{"p(hex:00A);", "word at 8"},
		{"p(hex:00:);", "word at 8"},
		{"p(\"a\"b);", "form at 5"},
		{"check if p($xY);", "word at 13"},
		{"check if p($hex:00);", "word at 15"},
		{"check if q($x),$x<-5;", "form at 17"},
		{"check if q($x),$x<=-5;", "ok"},
		{"check if q($x),$x>=5,5==$x,5!=$x,$x^=\"\";", "ok"},
		{"check if q($x),$x===5;", "word at 19"},
		{"check if 1<2or 3>2;", "ok"},
		{"check if 1<2orp(1);", "form at 12"},
		{"checkif p(1);", "form at 8"},
		{"p(1)<-q(1);", "ok"},
		{"p(1)< -q(1);", "form at 4"},
	} {
		if _, err := warrant.Parse(c.text); told(err) != c.want {
			t.Errorf("P5: %q: %s, want %s", c.text, told(err), c.want)
		}
	}
}

func TestBlanksAndNotes(t *testing.T) {
	want := rules(warrant.Rule{Head: atom("p", number(1), list(number(2))), Body: atoms(atom("q", variable("x"))), Guards: []warrant.Guard{guard(variable("x"), 3, date(-4))}})
	tokens := []string{"p", "(", "1", ",", "[", "2", "]", ")", "<-", "q", "(", "$x", ")", ",", "$x", "<", "@-4", ";"}
	for _, between := range []string{" ", "\t", "\n", "\r", " \t\r\n", "//\n", "// note // \"\xff\r [\n", "/// x\n//\n "} {
		whole := between + strings.Join(tokens, between) + between
		b, err := warrant.Parse(whole)
		if err != nil || !reflect.DeepEqual(b, want) {
			t.Errorf("P5: %q: %s %v, want %v", whole, told(err), b, want)
		}
	}
	for _, c := range []struct{ text, want string }{
		{"//", "ok"},
		{"// p(", "ok"},
		{"p(1); // no end of the line", "ok"},
		{"p(1) // the end of the line is no CR\r;", "form at 38"},
		{"p(1) / / note\n;", "word at 5"},
		{"p(1); /", "word at 6"},
		{"p(1)  // \n \t", "form at 12"},
		{" \n check", "form at 8"},
	} {
		if _, err := warrant.Parse(c.text); told(err) != c.want {
			t.Errorf("P5: %q: %s, want %s", c.text, told(err), c.want)
		}
	}
}

func TestNamesAndVariables(t *testing.T) {
	for _, name := range []string{"a", "z9_", "a__", "hexa", "iff", "order", "trues", "allowed", strings.Repeat("n", 16)} {
		b, err := warrant.Parse("check if " + name + "($" + name + ");")
		if want := check(body(atoms(atom(name, variable(name))))); err != nil || !reflect.DeepEqual(b, want) {
			t.Errorf("P5: %q: %s %v, want %v", name, told(err), b, want)
		}
	}
	// Words that no atom has as its name may be a variable's.
	for _, name := range []string{"check", "allow", "deny", "if", "or", "true", "false", "hex"} {
		b, err := warrant.Parse("check if p($" + name + ");")
		if want := check(body(atoms(atom("p", variable(name))))); err != nil || !reflect.DeepEqual(b, want) {
			t.Errorf("P5: %q: %s %v, want %v", name, told(err), b, want)
		}
	}
}
