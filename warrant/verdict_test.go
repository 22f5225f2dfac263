package warrant_test

import (
	"fmt"
	"math"
	"slices"
	"strings"
	"testing"

	"warrant/plain"
	"warrant/warrant"
)

// always allows whatever no check denies.
const always = "allow if 1 < 2;"

// minted is a token of the key "key" and of the blocks that a text says, with " / " between them.
func minted(t *testing.T, source string) string {
	t.Helper()
	var blocks []warrant.Block
	for s := range strings.SplitSeq(source, " / ") {
		blocks = append(blocks, parsed(t, s))
	}
	text, err := warrant.Mint("key", blocks[0])
	if err != nil {
		t.Fatalf("%s: %s", source, told(err))
	}
	text, err = warrant.Attenuate(text, blocks[1:]...)
	if err != nil {
		t.Fatalf("%s: %s", source, told(err))
	}
	return text
}

// sealed is the same token, sealed.
func sealed(t *testing.T, text string) string {
	t.Helper()
	text, err := warrant.Seal(text)
	if err != nil {
		t.Fatal(told(err))
	}
	return text
}

// ruled is the policies that a text says.
func ruled(t *testing.T, source string) []warrant.Policy {
	t.Helper()
	l, err := warrant.ParsePolicies(source)
	if err != nil {
		t.Fatalf("%s: %s", source, told(err))
	}
	return l
}

// idsOf is the Sums of a token of the key "key".
func idsOf(t *testing.T, text string) []string {
	t.Helper()
	_, ids, err := warrant.Verify("key", text)
	if err != nil {
		t.Fatal(told(err))
	}
	return ids
}

// exchanged is a text with another byte at one place.
func exchanged(text string, at int, mask byte) string {
	l := []byte(text)
	l[at] ^= mask
	return string(l)
}

// answered tells a verdict, or why there is none.
func answered(v int, err error) string {
	names := []string{"no verdict", "malformed", "bad tag", "revoked", "exceeded", "deny", "allow"}
	switch {
	case err != nil && v != 0:
		return fmt.Sprint(told(err), ", and verdict ", v)
	case err != nil:
		return told(err)
	case v < 0 || v >= len(names):
		return fmt.Sprint("verdict ", v)
	}
	return names[v]
}

// asks: Authorize answers so, by the program itself and by plain.
func asks(t *testing.T, about any, key, text string, q warrant.Request, policies []warrant.Policy, want string) {
	t.Helper()
	v, err := warrant.Authorize(key, text, q, policies)
	if got := answered(v, err); got != want {
		t.Errorf("P16: %v: %s, want %s", about, got, want)
	}
	if n, reason := plain.Authorize(key, text, q, policies); n != v || (reason == 0) != (err == nil) {
		t.Errorf("P16: %v, by plain: %d %d, want %d %s", about, n, reason, v, told(err))
	}
}

// asked is a token's blocks, a request's facts and policies, as texts; and what is answered.
type asked struct{ blocks, facts, policies, want string }

// askAll asks at clock 4, of each token as it is and sealed.
func askAll(t *testing.T, cases []asked) {
	t.Helper()
	for _, c := range cases {
		q := warrant.Request{Clock: 4, Facts: parsed(t, c.facts).Facts}
		text := minted(t, c.blocks)
		asks(t, c, "key", text, q, ruled(t, c.policies), c.want)
		asks(t, c, "key", sealed(t, text), q, ruled(t, c.policies), c.want)
	}
}

func TestVerdictExamples(t *testing.T) {
	first := `check if time($t), $t < @5;`
	for clock, want := range map[int64]string{4: "allow", 5: "deny"} {
		asks(t, clock, "key", minted(t, first), warrant.Request{Clock: clock}, ruled(t, always), want)
	}
	askAll(t, []asked{
		{first + ` / right("b");`, "", `allow if right("b");`, "deny"},
		{first + ` / right("b");`, "", always, "allow"},
		{first + ` check if right("b"); / right("b");`, "", always, "deny"},
		{first + ` / right("b"); check if right("b");`, "", always, "allow"},
	})
	text, longer := minted(t, first), minted(t, first+` / right("b");`)
	for i := range len(text) {
		v, err := warrant.Authorize("key", exchanged(text, i, 1), warrant.Request{Clock: 4}, ruled(t, always))
		if got := answered(v, err); got != "bad tag" && got != "malformed" {
			t.Errorf("P16: byte %d exchanged: %s", i, got)
		}
	}
	shorter := framed(0, longer[len(longer)-32:], encodedAll(t, parsed(t, first))...)
	asks(t, "the last block left out", "key", shorter, warrant.Request{Clock: 4}, ruled(t, always), "bad tag")
}

// A clock at, below and above a time: in a check of the first block, of a further one, in a policy.
func TestClock(t *testing.T) {
	const least, most = math.MinInt64, math.MaxInt64
	for _, c := range []struct {
		body         string
		holds, fails []int64
	}{
		{"time($t), $t < @5", []int64{4, 0, -1, -5, least}, []int64{5, 6, most}},
		{"time($t), $t <= @5", []int64{4, 5, least}, []int64{6, most}},
		{"time($t), $t > @5", []int64{6, most}, []int64{4, 5, least}},
		{"time($t), $t >= @5", []int64{5, 6, most}, []int64{4, -5, least}},
		{"time($t), $t == @5", []int64{5}, []int64{4, 6, -5}},
		{"time($t), $t != @5", []int64{4, 6, -5}, []int64{5}},
		{"time($t), $t >= @5, $t < @7", []int64{5, 6}, []int64{4, 7}},
		{"time(@5)", []int64{5}, []int64{4, 6, -5}},
		{"time(@0)", []int64{0}, []int64{-1, 1}},
		{"time($t), $t < @0", []int64{-1, least}, []int64{0, 1}},
		{"time(@-9223372036854775808)", []int64{least}, []int64{least + 1, most, 0}},
		{"time(@9223372036854775807)", []int64{most}, []int64{most - 1, least, -1}},
		{"time($t), $t > @-9223372036854775808", []int64{least + 1, 0, most}, []int64{least}},
		// a date, and nothing else
		{"time(5)", nil, []int64{5}}, {`time("5")`, nil, []int64{5}}, {"time($t), $t < 5", nil, []int64{4, 5}}, {"time(@5, @5)", nil, []int64{5}}, {"time()", nil, []int64{0, 5}}, {"time([@5])", nil, []int64{5}}, {"clock(@5)", nil, []int64{5}},
	} {
		first, further := minted(t, "check if "+c.body+";"), minted(t, "p(); / check if "+c.body+";")
		ask := func(clock int64, want string) {
			q := warrant.Request{Clock: clock}
			asks(t, fmt.Sprint(c.body, " at ", clock), "key", first, q, ruled(t, always), want)
			asks(t, fmt.Sprint("further ", c.body, " at ", clock), "key", further, q, ruled(t, always), want)
			asks(t, fmt.Sprint("allow if ", c.body, " at ", clock), "key", minted(t, ""), q, ruled(t, "allow if "+c.body+";"), want)
		}
		for _, clock := range c.holds {
			ask(clock, "allow")
		}
		for _, clock := range c.fails {
			ask(clock, "deny")
		}
	}
}

// The clock is one fact among others: who tells another time tells it besides.
func TestClockIsAFact(t *testing.T) {
	askAll(t, []asked{
		{"check if time(@4), time(@9);", "time(@9);", always, "allow"},
		{"check if time($t), $t > @4;", "time(@9);", always, "allow"},
		{"check if time($t), $t > @4;", "", always, "deny"},
		{"time(@9); check if time(@4), time(@9);", "", always, "allow"},
		{"check if time(@9); / time(@9); check if time(@9), time(@4);", "", always, "deny"},
		{"p(); / time(@9); check if time(@9), time(@4);", "", always, "allow"},
		{"late() <- time($t), $t > @3; check if late();", "", always, "allow"},
		{"time(@5) <- time(@4);", "", "allow if time(@5);", "allow"},
		{`time("x"); check if time("x"), time(@4);`, "time();", "allow if time();", "allow"},
	})
}

// What the first block and the request say is for all; what a further block says, for its own checks alone.
func TestWorlds(t *testing.T) {
	askAll(t, []asked{
		// the first block's world
		{`right("a");`, "", `allow if right("a");`, "allow"},
		{`right("a");`, "", `allow if right("b");`, "deny"},
		{`right("a"); may($x) <- right($x);`, "", `allow if may("a");`, "allow"},
		{`right("a"); may($x) <- right($x); check if may("a");`, "", always, "allow"},
		{`right("a"); may($x) <- right($x); check if may("b");`, "", always, "deny"},
		{"", `right("a");`, `allow if right("a");`, "allow"},
		{`check if right("a");`, `right("a");`, always, "allow"},
		{`may($x) <- right($x); check if may("b");`, `right("b");`, `allow if may("b");`, "allow"},
		{"edge(1, 2); path($x, $y) <- edge($x, $y); path($x, $z) <- path($x, $y), edge($y, $z); check if path(1, 3);", "edge(2, 3);", "allow if path(1, 3);", "allow"},
		// a further block's world: the first block's facts and rules, the request's facts, and its own
		{`right("a"); / check if right("a");`, "", always, "allow"},
		{`right("a"); / check if right("b");`, "", always, "deny"},
		{`p(); / check if right("a");`, `right("a");`, always, "allow"},
		{`right("a"); may($x) <- right($x); / check if may("a");`, "", always, "allow"},
		{`may($x) <- right($x); / right("z"); check if may("z");`, "", always, "allow"},
		{`right("a"); / may($x) <- right($x); check if may("a");`, "", always, "allow"},
		{`p(); / may($x) <- right($x); check if may("a");`, `right("a");`, always, "allow"},
		{`p(); / right("z"); may($x) <- right($x); check if may("z");`, "", always, "allow"},
		{"b($x) <- a($x); d($x) <- c($x); / a(1); c($x) <- b($x); check if d(1);", "", always, "allow"},
		{"a(1); b($x) <- a($x); / c($x) <- b($x), e($x); check if c(1);", "e(1);", always, "allow"},
		// nothing of it for the first block's checks, for policies, for the blocks ahead and behind
		{`check if right("b"); / right("b");`, "", always, "deny"},
		{`check if may("a"); right("a"); / may($x) <- right($x);`, "", always, "deny"},
		{`may($x) <- right($x); check if may("z"); / right("z");`, "", always, "deny"},
		{`right("a"); / right("b");`, "", `allow if right("b");`, "deny"},
		{`right("a"); / right("b");`, "", `deny if right("b"); allow if right("a");`, "allow"},
		{`right("a"); / may($x) <- right($x);`, "", `allow if may("a");`, "deny"},
		{`may($x) <- right($x); / right("z"); check if may("z");`, "", `allow if may("z");`, "deny"},
		{`p(); / right("b"); / check if right("b");`, "", always, "deny"},
		{`p(); / check if right("b"); / right("b");`, "", always, "deny"},
		{`right("a"); / may($x) <- right($x); / check if may("a");`, "", always, "deny"},
		{`right("a"); / check if may("a"); / may($x) <- right($x);`, "", always, "deny"},
		{`right("a"); / may($x) <- right($x); check if may("a"); / may($x) <- right($x); check if may("a");`, "", always, "allow"},
		{`may($x) <- right($x); / right("y"); check if may("y"); / right("z"); check if may("z");`, "", always, "allow"},
		{`may($x) <- right($x); / right("y"); check if may("y"); / right("z"); check if may("z"), may("y");`, "", always, "deny"},
	})
}

// Of each check, wherever it stands, one body must hold.
func TestChecks(t *testing.T) {
	seven := times(7, "p(); check if p();", " / ")
	askAll(t, []asked{
		{"", "", always, "allow"},
		{"p(); check if p();", "", always, "allow"},
		{"p(); check if q();", "", always, "deny"},
		{"p(); check if q() or p();", "", always, "allow"},
		{"p(); check if p() or q();", "", always, "allow"},
		{"p(); check if q() or r() or q() or p();", "", always, "allow"},
		{"p(); check if q() or r() or q() or r();", "", always, "deny"},
		{"p(); check if p(), q();", "", always, "deny"},
		{"p(); q(); check if p(), q();", "", always, "allow"},
		{"p(); check if p(); check if q();", "", always, "deny"},
		{"p(); check if q(); check if p();", "", always, "deny"},
		{"p(); check if p(); check if p();", "", always, "allow"},
		{"p(); " + times(23, "check if p();", " ") + " check if q();", "", always, "deny"},
		{"p(); " + times(24, "check if p();", " "), "", always, "allow"},
		// guards alone, guards that hold of nothing, guards beside atoms
		{"check if 1 < 2;", "", always, "allow"},
		{"check if 2 < 1;", "", always, "deny"},
		{"check if 1 < 2, 2 < 1;", "", always, "deny"},
		{"check if 2 < 1 or 1 < 2;", "", always, "allow"},
		{"p(); check if p(), 1 < 2;", "", always, "allow"},
		{"p(); check if p(), 2 < 1;", "", always, "deny"},
		{"check if p(), 1 < 2;", "", always, "deny"},
		// variables
		{"p(1); q(2); check if p($x), q($x);", "", always, "deny"},
		{"p(1); p(2); q(2); check if p($x), q($x);", "", always, "allow"},
		{"p(1); p(2); check if p($x), p($y), $x > $y;", "", always, "allow"},
		{"p(1); check if p($x), p($y), $x > $y;", "", always, "deny"},
		{"p(1, 2); p(2, 3); p(3, 4); p(4, 1); check if p($a, $b), p($b, $c), p($c, $d), p($d, $a);", "", always, "allow"},
		{"p(1, 2); p(2, 3); p(3, 4); p(4, 5); check if p($a, $b), p($b, $c), p($c, $d), p($d, $a);", "", always, "deny"},
		{"p(1); p(2); p(3); check if p($a), p($b), p($c), $a < $b, $b < $c;", "", always, "allow"},
		{"p(1); p(2); check if p($a), p($b), p($c), $a < $b, $b < $c;", "", always, "deny"},
		{`file("dir/a"); check if file($f), $f ^= "dir/";`, "", always, "allow"},
		{`file("dir"); check if file($f), $f ^= "dir/";`, "", always, "deny"},
		// what holds in one check is not there for the next, nor what it says
		{"p(1); check if p($x), $x == 1; check if p($x), $x == 2;", "", always, "deny"},
		{"p(1); check if q([2]) or p(1); check if q([2]);", "", always, "deny"},
		// in each of eight blocks
		{seven + " / check if p();", "", always, "allow"},
		{seven + " / check if q();", "", always, "deny"},
		{"p(); check if q(); / " + seven, "", always, "deny"},
		{"p(); / p(); / p(); check if p(); check if q(); / p();", "", always, "deny"},
	})
}

// The first policy of which a body holds decides; without one, deny.
func TestPolicies(t *testing.T) {
	none := times(23, "allow if q();", " ")
	askAll(t, []asked{
		{"p();", "", "", "deny"},
		{"p();", "", "allow if p();", "allow"},
		{"p();", "", "deny if p();", "deny"},
		{"p();", "", "allow if q();", "deny"},
		{"p();", "", "deny if q();", "deny"},
		{"p();", "", "deny if p(); allow if p();", "deny"},
		{"p();", "", "allow if p(); deny if p();", "allow"},
		{"p();", "", "deny if q(); allow if p();", "allow"},
		{"p();", "", "allow if q(); deny if p(); allow if p();", "deny"},
		{"p();", "", "allow if q(); allow if p(); deny if p();", "allow"},
		{"p();", "", "allow if q() or p();", "allow"},
		{"p();", "", "allow if q() or r() or s() or p();", "allow"},
		{"p();", "", "deny if q() or p(); allow if p();", "deny"},
		{"p();", "", "deny if q() or r(); allow if p();", "allow"},
		{"p();", "", "allow if p(), q();", "deny"},
		{"p(1); p(2);", "", "deny if p($x), $x > 2; allow if p($x), $x > 1;", "allow"},
		{"p(1);", "p(3);", "deny if p($x), $x > 2; allow if p($x);", "deny"},
		{"", "", "allow if 2 < 1;", "deny"},
		{"", "", "deny if 2 < 1; allow if 1 < 2, 3 >= 3;", "allow"},
		{"p();", "", none + " allow if p();", "allow"},
		{"p();", "", none + " deny if p();", "deny"},
		{"p();", "", none + " allow if q();", "deny"},
		// they come behind checks
		{"p(); check if q();", "", "allow if p();", "deny"},
		{"p(); / check if q();", "", "allow if p();", "deny"},
	})
	for _, policies := range [][]warrant.Policy{nil, {}} {
		asks(t, policies, "key", minted(t, "p();"), warrant.Request{}, policies, "deny")
	}
	one := ruled(t, "allow if p();")
	asks(t, "24 policies", "key", minted(t, "p();"), warrant.Request{}, same(24, one[0]), "allow")
	asks(t, "25 policies", "key", minted(t, "p();"), warrant.Request{}, same(25, one[0]), "limit")
}

// listed is facts of a name and of each number from one up to another.
func listed(name string, from, to int) string {
	source := ""
	for i := from; i < to; i++ {
		source += fmt.Sprintf("%s(%d); ", name, i)
	}
	return source
}

// following is rules that bring a fact each, in the first round.
func following(name string, from, to int) string {
	return strings.ReplaceAll(listed(name, from, to), ";", " <- 1 < 2;")
}

// A world has at most 60 facts, the clock's among them, each counted once.
func TestFactsOfWorlds(t *testing.T) {
	asking, first := listed("q", 0, 24), listed("f", 0, 24)
	askAll(t, []asked{
		// the first block's world: the clock, 24 facts of the request, 24 of the block; and what follows
		{first, asking, always, "allow"},
		{first + following("m", 0, 11), asking, always, "allow"},
		{first + following("m", 0, 12), asking, always, "exceeded"},
		{first + following("m", 0, 24), listed("q", 0, 11), always, "allow"},
		{first + following("m", 0, 24), listed("q", 0, 12), always, "exceeded"},
		{listed("f", 0, 11) + following("m", 0, 24), asking, always, "allow"},
		{listed("f", 0, 12) + following("m", 0, 24), asking, always, "exceeded"},
		{first + following("m", 0, 10) + "last() <- m(9);", asking, always, "allow"},
		{first + following("m", 0, 11) + "last() <- m(10);", asking, always, "exceeded"},
		// what is there already, or twice, counts once
		{first + following("m", 0, 12), listed("q", 0, 23) + "time(@4);", always, "allow"},
		{first + following("m", 0, 12), listed("q", 0, 23) + "time(@5);", always, "exceeded"},
		{first + following("m", 0, 12), listed("q", 0, 23) + "f(23);", always, "allow"},
		{first + following("m", 0, 12), listed("q", 0, 23) + "q(0);", always, "allow"},
		{first + following("m", 0, 11) + "m(0) <- f(0); q(3) <- f(0); time(@4) <- f(0);", asking, always, "allow"},
		// a further block's world, at first and behind a round
		{first + " / " + listed("o", 0, 11), asking, always, "allow"},
		{first + " / " + listed("o", 0, 12), asking, always, "exceeded"},
		{first + " / " + listed("o", 0, 24), asking, always, "exceeded"},
		{first + " / " + listed("o", 0, 11) + "o(0); f(0); q(0); time(@4);", asking, always, "allow"},
		{first + " / " + first, asking, always, "allow"},
		{first + " / " + asking, asking, always, "allow"},
		{first + " / " + listed("o", 0, 11) + following("o", 0, 11), asking, always, "allow"},
		{first + " / " + listed("o", 0, 11) + following("o", 11, 12), asking, always, "exceeded"},
		{first + " / " + listed("o", 0, 10) + following("o", 10, 11), asking, always, "allow"},
		{first + following("m", 0, 5) + " / " + listed("o", 0, 6), asking, always, "allow"},
		{first + following("m", 0, 5) + " / " + listed("o", 0, 7), asking, always, "exceeded"},
		{first + following("m", 0, 5) + " / " + following("o", 0, 6), asking, always, "allow"},
		{first + following("m", 0, 5) + " / " + following("o", 0, 7), asking, always, "exceeded"},
		{"m($x) <- o($x); " + first + " / " + listed("o", 0, 17), listed("q", 0, 1), always, "allow"},
		{"m($x) <- o($x); " + first + " / " + listed("o", 0, 18), listed("q", 0, 1), always, "exceeded"},
		// each world counts alone
		{first + times(7, " / "+listed("o", 0, 11), ""), asking, always, "allow"},
		{first + " / " + listed("o", 0, 11) + " / " + listed("n", 0, 11), asking, always, "allow"},
		{first + " / " + listed("o", 0, 11) + " / " + listed("n", 0, 12), asking, always, "exceeded"},
		{first + " / " + listed("o", 0, 12) + " / " + listed("n", 0, 11), asking, always, "exceeded"},
		{first + times(6, " / "+listed("o", 0, 11), "") + " / " + listed("n", 0, 12), asking, always, "exceeded"},
	})
}

// links is facts of a chain: at each round one more step along it is taken.
func links(from, to int) string {
	source := ""
	for i := from; i < to; i++ {
		source += fmt.Sprintf("next(%d, %d); ", i, i+1)
	}
	return source
}

// A world closes in twelve rounds; each begins anew, from facts that nothing has followed from.
func TestRoundsOfWorlds(t *testing.T) {
	walk := "at($y) <- at($x), next($x, $y); "
	askAll(t, []asked{
		{walk + "at(0);", links(0, 12), "allow if at(12);", "allow"},
		{walk + "at(0);", links(0, 13), always, "exceeded"},
		{walk + "at(0);" + links(0, 6), links(6, 12), "allow if at(12);", "allow"},
		{walk + "at(0);" + links(0, 6), links(6, 13), always, "exceeded"},
		{walk + links(0, 12), "at(0);", "allow if at(12);", "allow"},
		{walk + links(0, 13), "at(0);", always, "exceeded"},
		{walk + links(0, 13), "at(1);", "allow if at(13);", "allow"},
		{"at(1) <- time(@4); " + walk, links(0, 12), "allow if at(12);", "allow"},
		{"at(1) <- time(@4); " + walk, links(0, 13), always, "exceeded"},
		{steps(12), "", "allow if at(12);", "allow"},
		{steps(13), "", always, "exceeded"},
		// in a further block's world
		{walk + " / at(0); check if at(12);", links(0, 12), always, "allow"},
		{walk + " / at(0); check if at(12);", links(0, 13), always, "exceeded"},
		{"at(0); " + links(0, 12) + " / " + walk + "check if at(12);", "", always, "allow"},
		{"at(0); " + links(0, 13) + " / " + walk + "check if at(12);", "", always, "exceeded"},
		{walk + "at(0); " + links(0, 11) + " / next(11, 12); check if at(12);", "", always, "allow"},
		{walk + "at(0); " + links(0, 12) + " / next(12, 13); check if at(13);", "", always, "exceeded"},
		{steps(12) + " / end() <- at(11); check if end();", "", always, "allow"},
		{steps(12) + " / end() <- at(12); check if end();", "", always, "exceeded"},
		{steps(12) + " / check if at(12);", "", always, "allow"},
		{steps(12) + " / end() <- at(11); / end() <- at(12);", "", always, "exceeded"},
		{steps(12) + " / end() <- at(11); / ends() <- at(11); check if ends();", "", always, "allow"},
	})
}

// revoking asks of a token with one of some lists of what is revoked.
func revoking(t *testing.T, text string, want string, lists ...[]string) {
	t.Helper()
	for _, l := range lists {
		asks(t, fmt.Sprintf("%x revoked", l), "key", text, warrant.Request{Revoked: l}, ruled(t, always), want)
	}
}

func TestRevoked(t *testing.T) {
	source := "p(1); / p(2); / p(3); / p(4);"
	text := minted(t, source)
	ids := idsOf(t, text)
	for i, id := range ids {
		for _, text := range []string{text, sealed(t, text), minted(t, source+" / p(5); / p(6);")} {
			revoking(t, text, "revoked", []string{id}, []string{"x", id}, []string{id, ""}, []string{id, id}, append(same(1_000, "x"), id))
		}
		for many := 1; many <= 3; many++ {
			shorter := minted(t, strings.Join(strings.Split(source, " / ")[:many], " / "))
			want := "allow"
			if i < many {
				want = "revoked"
			}
			revoking(t, shorter, want, []string{id})
		}
	}
	revoking(t, text, "revoked", ids, ids[1:3], ids[2:])
	// nothing but the Sums themselves
	_, tags := chained("key", encodedAll(t, parsed(t, "p(1);"), parsed(t, "p(2);"), parsed(t, "p(3);"), parsed(t, "p(4);"))...)
	for i, id := range ids {
		revoking(t, text, "allow", []string{tags[i]}, []string{id[:31]}, []string{id[1:]}, []string{id + "\x00"}, []string{id + id}, []string{fmt.Sprintf("%x", id)}, []string{sum(id)}, []string{exchanged(id, 31, 1)}, []string{exchanged(id, 0, 128)})
	}
	other := idsOf(t, minted(t, "p(0); / p(2); / p(3); / p(4);"))
	revoking(t, text, "allow", nil, []string{}, []string{""}, []string{"x", "", "\x00"}, other, same(1_000, strings.Repeat("x", 32)), []string{strings.Join(ids, "")}, []string{text}, []string{sum(text)}, []string{sum("p(1);")})
	// a seal has a tag too, but is no block
	end := sealed(t, text)
	revoking(t, end, "allow", []string{sum(end[len(end)-32:])}, []string{end[len(end)-32:]})
}

// What Verify refuses is malformed, but a bad tag, which is a verdict of its own.
func TestMalformedOrBadTag(t *testing.T) {
	text := minted(t, `right("a"); / check if right("a");`)
	fine := warrant.Request{Clock: 4}
	for _, c := range []struct{ key, text, want string }{
		{"key", text, "allow"}, {"key", sealed(t, text), "allow"},
		{"", text, "malformed"}, {strings.Repeat("k", 101), text, "malformed"}, {"", "", "malformed"}, {strings.Repeat("k", 100_000), text, "malformed"},
		{"k", text, "bad tag"}, {"Key", text, "bad tag"}, {strings.Repeat("k", 100), text, "bad tag"}, {"no", sealed(t, text), "bad tag"},
		{"key", "", "malformed"}, {"key", "wrt1", "malformed"}, {"key", "wrt2" + text[4:], "malformed"}, {"key", text + "x", "malformed"}, {"no", text + "x", "malformed"}, {"key", text[1:], "malformed"}, {"key", text + text, "malformed"},
		{"key", exchanged(text, len(text)-1, 1), "bad tag"}, {"key", framed(1, text[len(text)-32:], "\x00\x00\x00"), "bad tag"}, {"key", strings.Replace(text, "wrt1\x00", "wrt1\x01", 1), "bad tag"}, {"key", strings.Replace(text, "wrt1\x00", "wrt1\x02", 1), "malformed"},
		{"key", framed(0, mac("key", "\x00\x00\x00"), "\x00\x00\x00"), "allow"}, {"key", framed(0, mac("key", "\x00\x00"), "\x00\x00"), "malformed"}, {"key", framed(0, mac("key", ""), ""), "malformed"}, {"key", framed(0, strings.Repeat("\x00", 32)), "malformed"},
		{"key", framed(0, strings.Repeat("\x00", 32), same(9, "\x00\x00\x00")...), "malformed"}, {"key", framed(0, strings.Repeat("\x00", 32), same(8, "\x00\x00\x00")...), "bad tag"},
	} {
		asks(t, fmt.Sprintf("key %.9q, %x", c.key, c.text), c.key, c.text, fine, ruled(t, always), c.want)
	}
	for i := range len(text) {
		asks(t, fmt.Sprint("cut at ", i), "key", text[:i], fine, ruled(t, always), "malformed")
	}
	for i := range len(text) {
		for _, mask := range []byte{1, 2, 4, 8, 16, 32, 64, 128, 255} {
			other, want := exchanged(text, i, mask), "malformed"
			if _, _, err := warrant.Verify("key", other); told(err) == "tag" {
				want = "bad tag"
			}
			asks(t, fmt.Sprintf("byte %d, mask %d", i, mask), "key", other, fine, ruled(t, always), want)
		}
	}
}

// Each verdict is told ahead of all behind it, and each thing that is refused ahead of all verdicts.
func TestVerdictsInOrder(t *testing.T) {
	denied := minted(t, "p(); check if q();")
	exceeding := minted(t, steps(13)+" check if q();")
	later := minted(t, "check if q(); / check if q(); / "+steps(13))
	bad := exchanged(exceeding, len(exceeding)-1, 1)
	revoked := slices.Concat(idsOf(t, denied), idsOf(t, exceeding), idsOf(t, later)[2:])
	fine, wrong := warrant.Request{}, warrant.Request{Facts: atoms(atom("p", variable("x")))}
	barred := warrant.Request{Revoked: revoked}
	wrongToo := warrant.Request{Facts: wrong.Facts, Revoked: revoked}
	allow, deny := ruled(t, always), ruled(t, "deny if 1 < 2;")
	for i, c := range []struct {
		key, text string
		q         warrant.Request
		policies  []warrant.Policy
		want      string
	}{
		{"key", denied, fine, allow, "deny"},
		{"key", exceeding, fine, allow, "exceeded"}, {"key", exceeding, fine, deny, "exceeded"}, {"key", exceeding, fine, nil, "exceeded"},
		{"key", later, fine, allow, "exceeded"}, {"key", later, fine, nil, "exceeded"},
		{"key", denied, barred, allow, "revoked"}, {"key", exceeding, barred, allow, "revoked"}, {"key", later, barred, nil, "revoked"},
		{"no", denied, fine, allow, "bad tag"}, {"no", exceeding, barred, allow, "bad tag"}, {"key", bad, barred, allow, "bad tag"}, {"no", later, barred, nil, "bad tag"},
		{"", exceeding, barred, allow, "malformed"}, {"", bad, barred, allow, "malformed"}, {"key", bad + "x", barred, nil, "malformed"}, {"no", exceeding[1:], barred, deny, "malformed"},
		{"key", denied, wrong, allow, "free"}, {"key", exceeding, wrongToo, allow, "free"}, {"no", bad, wrongToo, allow, "free"}, {"", "", wrongToo, nil, "free"},
		{"key", denied, fine, make([]warrant.Policy, 1), "form"}, {"key", exceeding, barred, make([]warrant.Policy, 1), "form"}, {"no", bad, barred, make([]warrant.Policy, 25), "limit"}, {"", "", barred, make([]warrant.Policy, 1), "form"},
		{"key", denied, wrong, make([]warrant.Policy, 1), "free"}, {"", "", wrong, make([]warrant.Policy, 25), "free"}, {"key", denied, warrant.Request{Facts: same(25, atom("p"))}, make([]warrant.Policy, 1), "limit"},
	} {
		asks(t, fmt.Sprint("case ", i), c.key, c.text, c.q, c.policies, c.want)
	}
}

// What P4 refuses of a request's facts: the reason that it names first.
func TestRequestsRefused(t *testing.T) {
	x, one := variable("x"), number(1)
	p := atom("p", one)
	granted := minted(t, "p(1);")
	long, deep := strings.Repeat("s", 65), list(list(list(list())))
	for i, c := range []struct {
		facts []warrant.Atom
		want  string
	}{
		{nil, "allow"}, {atoms(), "allow"}, {same(24, p), "allow"}, {atoms(atom("p", list(list(list())))), "allow"}, {atoms(atom("check"), atom("time"), atom("time", date(0))), "allow"},
		{same(25, p), "limit"}, {make([]warrant.Atom, 25), "limit"}, {same(25, atom("p", x)), "limit"}, {make([]warrant.Atom, 24), "form"},
		{atoms(atom("p", x)), "free"}, {atoms(p, atom("p", one, x)), "free"}, {append(same(23, p), atom("p", x)), "free"},
		{atoms(atom("")), "form"}, {atoms(atom("P")), "form"}, {atoms(atom(strings.Repeat("p", 17))), "form"}, {atoms(atom("p", warrant.Term{})), "form"}, {atoms(atom("p", warrant.Term{Kind: 8})), "form"}, {atoms(atom("p", text("\xff"))), "form"}, {atoms(atom("p", truth(2))), "form"}, {atoms(atom("p", list(x))), "form"}, {atoms(atom("p", warrant.Term{Kind: 2, Text: "1"})), "form"},
		{atoms(atom("p", same(7, one)...)), "limit"}, {atoms(atom("p", text(long))), "limit"}, {atoms(atom("p", list(same(7, one)...))), "limit"},
		{atoms(atom("p", deep)), "deep"},
		{atoms(atom("p", x), atom("P")), "free"}, {atoms(atom("P"), atom("p", x)), "form"}, {atoms(atom("p", x, deep)), "deep"}, {atoms(atom("p", deep, warrant.Term{})), "deep"}, {atoms(p, atom("p", text(long)), atom("P")), "limit"},
	} {
		q := warrant.Request{Facts: c.facts}
		asks(t, fmt.Sprintf("case %d, facts %+v", i, c.facts), "key", granted, q, ruled(t, always), c.want)
		if c.want != "allow" {
			asks(t, fmt.Sprintf("case %d, facts %+v, nothing else right", i, c.facts), "", "x", q, make([]warrant.Policy, 25), c.want)
		}
	}
}

// What P4 refuses of policies.
func TestPoliciesRefused(t *testing.T) {
	x, one := variable("x"), number(1)
	p, deep := atom("p", one), list(list(list(list())))
	granted := minted(t, "p(1);")
	fine := body(atoms(atom("p", x)))
	for i, c := range []struct {
		bodies []warrant.Rule
		want   string
	}{
		{same(1, fine), "allow"}, {same(4, fine), "allow"},
		{nil, "form"}, {make([]warrant.Rule, 1), "form"}, {same(5, fine), "limit"}, {make([]warrant.Rule, 5), "limit"},
		{[]warrant.Rule{{Head: p, Body: atoms(p)}}, "form"}, {[]warrant.Rule{fine, {Head: atom("", one), Body: atoms(p)}}, "form"},
		{[]warrant.Rule{body(nil, guard(x, 1, one))}, "free"}, {[]warrant.Rule{fine, body(nil, guard(x, 1, one)), {}}, "free"}, {[]warrant.Rule{fine, {}, body(nil, guard(x, 1, one))}, "form"},
		{[]warrant.Rule{body(same(5, p))}, "limit"}, {[]warrant.Rule{body(nil, same(5, guard(one, 1, one))...)}, "limit"}, {[]warrant.Rule{body(nil, guard(one, 0, one))}, "form"}, {[]warrant.Rule{body(nil, guard(one, 8, one))}, "form"}, {[]warrant.Rule{body(atoms(atom("p", deep)))}, "deep"}, {[]warrant.Rule{body(atoms(atom("P")))}, "form"},
	} {
		policy := warrant.Policy{Allow: true, Either: c.bodies}
		asks(t, fmt.Sprintf("case %d, policy %+v", i, policy), "key", granted, warrant.Request{}, []warrant.Policy{policy}, c.want)
		asks(t, fmt.Sprintf("case %d, policy %+v behind others", i, policy), "key", granted, warrant.Request{}, append(same(23, warrant.Policy{Allow: true, Either: same(1, fine)}), policy), c.want)
		if c.want != "allow" {
			asks(t, fmt.Sprintf("case %d, policy %+v ahead of another wrong one", i, policy), "", "", warrant.Request{}, []warrant.Policy{policy, {Either: []warrant.Rule{body(atoms(atom("p", deep)))}}}, c.want)
		}
	}
}

// Lists of a request may come in far deeper than they may be.
func TestDeepRequests(t *testing.T) {
	deep := list()
	for range 99_999 {
		deep = list(deep)
	}
	granted := minted(t, "p(1);")
	asks(t, "a deep fact", "key", granted, warrant.Request{Facts: atoms(atom("p", deep))}, ruled(t, always), "deep")
	asks(t, "a deep fact of no form", "key", granted, warrant.Request{Facts: atoms(atom("p", warrant.Term{Kind: 2, List: deep.List}))}, ruled(t, always), "form")
	for _, b := range []warrant.Rule{body(atoms(atom("p", deep))), body(nil, guard(number(1), 1, deep)), body(nil, guard(deep, 1, number(1)))} {
		asks(t, "a deep policy", "key", granted, warrant.Request{}, []warrant.Policy{{Allow: true, Either: []warrant.Rule{b}}}, "deep")
	}
}

// The greatest facts that a request may have: longer than a block's bytes may be, which is not asked of it.
func TestGreatRequests(t *testing.T) {
	great := text(strings.Repeat("s", 64))
	for range 3 {
		great = list(same(6, great)...)
	}
	var l []warrant.Atom
	for i := range 24 {
		l = append(l, atom("p", append(same(5, great), number(int64(i)))...))
	}
	v, w := variable("v"), variable("w")
	policy := warrant.Policy{Allow: true, Either: []warrant.Rule{body(atoms(atom("p", v, v, v, v, v, w), atom("p", v, v, v, v, great, number(23))), guard(w, 3, number(1)), guard(v, 1, great))}}
	asks(t, "great facts", "key", minted(t, "check if p($a, $b, $c, $d, $e, 23), $a == $b, $b == $c, $c == $d, $d == $e;"), warrant.Request{Facts: l}, []warrant.Policy{policy}, "allow")
}

// Bodies of checks and of policies with very many ways, none of which holds: they end soon.
func TestManyWaysToAllow(t *testing.T) {
	four := "p($a, $e), p($b, $f), p($c, $g), p($d, $h)"
	pairs := numbered(7) + "p($x, $y) <- n($x), n($y); "
	for _, guards := range []string{
		", $d > 99",
		", $a < $b, $b < $c, $c < $d, $d < $a",
		", $a <= $d, $b <= $c, $d < $b, $c < $a",
		", $a != $b, $b != $c, $c != $d, $d ^= $a",
	} {
		hard := four + guards
		askAll(t, []asked{
			{pairs + times(6, "check if "+hard+" or "+hard+" or 1 < 2;", " "), "", times(6, "allow if "+hard+" or "+hard+";", " "), "deny"},
			{pairs + " / " + times(6, "check if "+hard+" or "+hard+" or 1 < 2;", " "), "", times(6, "deny if "+hard+";", " ") + always, "allow"},
		})
	}
}
