package warrant_test

import (
	"errors"
	"math/rand/v2"
	"reflect"
	"strings"
	"testing"

	"warrant/warrant"
)

// pieces: of these texts are made at random, so that many come far into the reading.
var pieces = []string{
	"p(", "q(", ")", "[", "]", ",", ";", "<-", "<", "<=", ">", ">=", "==", "!=", "^=", "check if ", "allow if ", "deny if ", " or ", "true", "false", "hex", "hex:", "hex:0a",
	"$x", "$y", "$", "1", "-1", "0", "@5", "@", "-", `"a"`, `"`, `\u0041`, "\\", "\n", " ", "//", "/", "é", "\xff", "p()", "p($x)", "$x < 1", "p();", "check if p();", "p($x) <- q($x);",
}

// tellsWell asks what holds of every answer of Parse and ParsePolicies.
func tellsWell(t *testing.T, source string, answer any, err error) {
	t.Helper()
	if err == nil {
		return
	}
	if v := reflect.ValueOf(answer); !v.IsZero() {
		t.Errorf("P1: %q: an error, and %v", source, answer)
	}
	var f *warrant.Fault
	if !errors.As(err, &f) || f.At < 0 || f.At > len(source) {
		t.Errorf("Words: %q: %s", source, told(err))
		return
	}
	reason, _, _ := strings.Cut(told(err), " at ")
	switch reason {
	case "word", "form", "deep", "limit", "free":
	default:
		t.Errorf("P6: %q: %s", source, told(err))
	}
}

func readAll(t *testing.T, source string) {
	t.Helper()
	b, err := warrant.Parse(source)
	tellsWell(t, source, b, err)
	l, err := warrant.ParsePolicies(source)
	tellsWell(t, source, l, err)
}

func TestRandomTexts(t *testing.T) {
	r := rand.New(rand.NewPCG(1, 2))
	for range 20_000 {
		var b strings.Builder
		for range r.IntN(25) {
			b.WriteString(pieces[r.IntN(len(pieces))])
		}
		readAll(t, b.String())
	}
}

func FuzzParse(f *testing.F) {
	f.Add(`right("a"); may($x) <- right($x), $x != "b";`)
	f.Add(`check if time($t), $t < @5 or p([1, [true]], hex:00ff);`)
	f.Add(`allow if p(1); deny if p($x), $x > 1 or 1 < 2; // note`)
	f.Add("p(\"\\u00e9\\n\xff\");")
	f.Fuzz(func(t *testing.T, source string) { readAll(t, source) })
}
