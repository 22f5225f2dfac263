package warrant_test

import (
	"reflect"
	"slices"
	"strings"
	"testing"
	"unsafe"

	"warrant/warrant"
)

// stretch is where some memory begins, and where it ends.
type stretch struct{ from, to uintptr }

func (s stretch) meets(o stretch) bool { return s.from < o.to && o.from < s.to }

func stretchOf(text string) stretch {
	from := uintptr(unsafe.Pointer(unsafe.StringData(text)))
	return stretch{from, from + uintptr(len(text))}
}

// stretches tells what all lists of a value reach, spare room included, and what its texts do.
func stretches(v reflect.Value) (lists, texts []stretch) {
	add := func(v reflect.Value) {
		l, t := stretches(v)
		lists, texts = append(lists, l...), append(texts, t...)
	}
	switch v.Kind() {
	case reflect.String:
		texts = append(texts, stretchOf(v.String()))
	case reflect.Slice:
		lists = append(lists, stretch{v.Pointer(), v.Pointer() + uintptr(v.Cap())*v.Type().Elem().Size()})
		for i := range v.Len() {
			add(v.Index(i))
		}
	case reflect.Struct:
		for i := range v.NumField() {
			add(v.Field(i))
		}
	}
	return lists, texts
}

// What is handed out shares nothing with what came in, and no two lists of it share anything.
func TestAnswersAreNew(t *testing.T) {
	source := `p("a", hex:0aff, [1, [2], []], [[3]]); ` + times(5, `q(1, 2); r($x, $y) <- p($x), q($y, [1, 2, 3]), $x == 1, $y ^= "abc"; check if p($x), q($x) or 1 < 2, 3 < 4 or q($z);`, " ")
	block, err := warrant.Parse(source)
	if err != nil {
		t.Fatal(told(err))
	}
	rules := strings.Clone(`allow if p($xyz), $xyz ^= "abc" or q(1, [2, [3]]); deny if p(), q(); deny if r();`)
	policies, err := warrant.ParsePolicies(rules)
	if err != nil {
		t.Fatal(told(err))
	}
	encoded, err := warrant.Encode(block)
	if err != nil {
		t.Fatal(told(err))
	}
	decoded, err := warrant.Decode(encoded)
	if err != nil {
		t.Fatal(told(err))
	}
	for _, c := range []struct {
		answer any
		source string
	}{{block, source}, {policies, rules}, {decoded, encoded}} {
		lists, texts := stretches(reflect.ValueOf(c.answer))
		for i, l := range lists {
			if slices.ContainsFunc(lists[:i], l.meets) {
				t.Error("P2: two lists of an answer share memory")
			}
		}
		if slices.ContainsFunc(texts, stretchOf(c.source).meets) {
			t.Error("P2: an answer keeps a piece of the text that came in")
		}
	}
}

// What follows shares nothing with the facts and rules from which it does, though all of it comes from there.
func TestWhatFollowsIsNew(t *testing.T) {
	b := parsed(t, `p("abc", hex:0aff, [1, ["def"], []]); p("abc", hex:0aff, [1, ["def"], []]); p("x", "abc", 1); q($z, $z, $x, ["ghi", [3]]) <- p($x, $y, $z); r([["ghi"]], "jkl") <- 1 < 2; r($x, $x) <- q($x, $x, $y, $z);`)
	got, err := warrant.Solve(b.Facts, b.Rules)
	if err != nil || len(got) != 7 {
		t.Fatal(told(err), len(got))
	}
	lists, texts := stretches(reflect.ValueOf(got))
	for i, l := range lists {
		if slices.ContainsFunc(lists[:i], l.meets) {
			t.Error("P2: two lists of what follows share memory")
		}
	}
	givenLists, givenTexts := stretches(reflect.ValueOf(b))
	for _, l := range givenLists {
		if slices.ContainsFunc(lists, l.meets) {
			t.Error("P2: what follows shares a list with what came in")
		}
	}
	for _, s := range givenTexts {
		if slices.ContainsFunc(texts, s.meets) {
			t.Error("P2: what follows keeps a text that came in")
		}
	}
}

// What a token is made of, and what is made of it, share nothing with it.
func TestTokensAreNew(t *testing.T) {
	b := parsed(t, `p("abc", hex:0aff, [1, ["def"], []]); q($x) <- p($x), $x ^= "abc"; check if p("abc") or q($y);`)
	first, err := warrant.Mint("key", b)
	if err != nil {
		t.Fatal(told(err))
	}
	same, err := warrant.Attenuate(first)
	if err != nil || same != first || stretchOf(same).meets(stretchOf(first)) {
		t.Errorf("P2: nothing put behind a token: %s, and the same memory", told(err))
	}
	longer, err := warrant.Attenuate(first, b, b)
	if err != nil {
		t.Fatal(told(err))
	}
	sealed, err := warrant.Seal(longer)
	if err != nil {
		t.Fatal(told(err))
	}
	blocks, ids, err := warrant.Verify("key", sealed)
	if err != nil || len(blocks) != 3 {
		t.Fatal(told(err), len(blocks))
	}
	lists, texts := stretches(reflect.ValueOf(struct {
		Blocks []warrant.Block
		Ids    []string
	}{blocks, ids}))
	for i, l := range lists {
		if slices.ContainsFunc(lists[:i], l.meets) {
			t.Error("P2: two lists of what Verify tells share memory")
		}
	}
	if slices.ContainsFunc(texts, stretchOf(sealed).meets) {
		t.Error("P2: what Verify tells keeps a piece of the token")
	}
}

// What the caller does with one answer is not to be seen in the next.
func TestNothingIsKept(t *testing.T) {
	source := `p("a", [1, 2]); r($x) <- p($x), $x == 1; check if p($x) or 1 < 2;`
	first, _ := warrant.Parse(source)
	want, _ := warrant.Parse(source)
	first.Facts[0].Terms[1].List[0] = text("spoilt")
	first.Facts[0].Name = "spoilt"
	first.Rules[0].Guards[0] = warrant.Guard{}
	first.Checks[0].Either[0].Body = nil
	if again, err := warrant.Parse(source); err != nil || !reflect.DeepEqual(again, want) {
		t.Errorf("P2: the second answer is %v, want %v", again, want)
	}
	encoded, _ := warrant.Encode(want)
	decoded, _ := warrant.Decode(encoded)
	decoded.Facts[0].Terms[1].List[0] = text("spoilt")
	decoded.Checks[0].Either[0].Body = nil
	if again, err := warrant.Decode(encoded); err != nil || !reflect.DeepEqual(again, want) {
		t.Errorf("P2: the second answer of Decode is %v, want %v", again, want)
	}
	followed, _ := warrant.Solve(want.Facts, nil)
	followed[0].Terms[1].List[0] = text("spoilt")
	followed[0].Name = "spoilt"
	if again, err := warrant.Solve(want.Facts, nil); err != nil || !reflect.DeepEqual(again, want.Facts) {
		t.Errorf("P2: the second answer of Solve is %v, want %v", again, want.Facts)
	}
	token, _ := warrant.Mint("key", want)
	blocks, ids, _ := warrant.Verify("key", token)
	blocks[0].Facts[0].Terms[1].List[0] = text("spoilt")
	blocks[0].Checks[0].Either[0].Body = nil
	id := ids[0]
	ids[0] = "spoilt"
	if again, ids, err := warrant.Verify("key", token); err != nil || !reflect.DeepEqual(again, []warrant.Block{want}) || ids[0] != id {
		t.Errorf("P2: the second answer of Verify is %v %x, want %v %x", again, ids, want, id)
	}
	q, allow := warrant.Request{Facts: want.Facts, Revoked: []string{id}}, []warrant.Policy{{Allow: true, Either: want.Checks[0].Either}}
	for range 2 {
		asks(t, "revoked", "key", token, q, allow, "revoked")
		asks(t, "not revoked", "key", token, warrant.Request{}, allow, "allow")
		asks(t, "no policies", "key", token, warrant.Request{Facts: want.Facts}, nil, "deny")
	}
	_, err := warrant.Parse("p(")
	err.(*warrant.Fault).At = 99
	if _, err := warrant.Parse("p("); told(err) != "form at 2" {
		t.Errorf("P2: a Fault is kept: %s", told(err))
	}
}

// A block that is printed, encoded, solved or put into a token is only read, spare room included.
func TestBlocksAreOnlyRead(t *testing.T) {
	source := `p("a", [1, [2]]); r($y) <- p($x, $y), $x == "a"; check if p($x) or 1 < 2;`
	made := func() warrant.Block {
		b, _ := warrant.Parse(source)
		roomy := append(make([]warrant.Term, 0, 9), b.Facts[0].Terms...)
		b.Facts[0].Terms = roomy
		b.Facts = append(make([]warrant.Atom, 0, 9), b.Facts...)
		b.Rules = append(make([]warrant.Rule, 0, 9), b.Rules...)
		return b
	}
	b, want := made(), made()
	warrant.Print(b)
	warrant.Encode(b)
	warrant.Solve(b.Facts, b.Rules)
	token, _ := warrant.Mint("key", b)
	blocks := append(make([]warrant.Block, 0, 9), b, b)
	warrant.Attenuate(token, blocks...)
	if !reflect.DeepEqual(blocks[:9], append([]warrant.Block{want, want}, make([]warrant.Block, 7)...)) {
		t.Errorf("P2: the list of blocks is %v", blocks[:9])
	}
	if !reflect.DeepEqual(b, want) || !reflect.DeepEqual(b.Facts[0].Terms[:9], want.Facts[0].Terms[:9]) {
		t.Errorf("P2: the block is %v, was %v", b, want)
	}
	if !reflect.DeepEqual(b.Facts[:9], want.Facts[:9]) || !reflect.DeepEqual(b.Rules[:9], want.Rules[:9]) {
		t.Errorf("P2: behind its facts or rules the block has got something: %v", b)
	}
}

// roomy is the same list with spare room behind it.
func roomy[T any](l []T) []T { return append(make([]T, 0, len(l)+9), l...) }

// untouched: the lists are the same, spare room included.
func untouched[T any](got, want []T) bool {
	return reflect.DeepEqual(got[:cap(got)], want[:cap(want)])
}

// What Authorize is given is only read, spare room included.
func TestRequestsAreOnlyRead(t *testing.T) {
	token := minted(t, `right("a"); may($x) <- right($x); check if may("b"); / right("c"); had($x) <- may($x); check if had("c");`)
	made := func() (warrant.Request, []warrant.Policy) {
		facts := roomy(parsed(t, `right("b"); list([1, ["x"]]);`).Facts)
		facts[1].Terms = roomy(facts[1].Terms)
		facts[1].Terms[0].List = roomy(facts[1].Terms[0].List)
		policies := roomy(ruled(t, `deny if may("c") or list([2]); allow if may($x), list($y), $x != $y or may($x), $x ^= "b";`))
		policies[1].Either = roomy(policies[1].Either)
		policies[1].Either[1].Body = roomy(policies[1].Either[1].Body)
		policies[1].Either[1].Guards = roomy(policies[1].Either[1].Guards)
		return warrant.Request{Clock: 4, Facts: facts, Revoked: roomy([]string{"z", "x", "y"})}, policies
	}
	q, policies := made()
	asks(t, "with spare room", "key", token, q, policies, "allow")
	want, wanted := made()
	if !untouched(q.Facts, want.Facts) || !untouched(q.Facts[1].Terms, want.Facts[1].Terms) || !untouched(q.Facts[1].Terms[0].List, want.Facts[1].Terms[0].List) {
		t.Errorf("P2: the request's facts are %v, were %v", q.Facts, want.Facts)
	}
	if !untouched(q.Revoked, want.Revoked) || q.Clock != want.Clock {
		t.Errorf("P2: the request is %v, was %v", q, want)
	}
	either, was := policies[1].Either, wanted[1].Either
	if !untouched(policies, wanted) || !untouched(either, was) || !untouched(either[1].Body, was[1].Body) || !untouched(either[1].Guards, was[1].Guards) {
		t.Errorf("P2: the policies are %v, were %v", policies, wanted)
	}
}
