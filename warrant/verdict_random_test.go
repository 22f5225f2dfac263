package warrant_test

import (
	"fmt"
	"math/rand/v2"
	"slices"
	"testing"

	"warrant/warrant"
)

// holdsAny: one of some bodies holds.
func (n naive) holdsAny(bodies []warrant.Rule) bool {
	return slices.ContainsFunc(bodies, func(b warrant.Rule) bool {
		b.Head = atom("holds")
		return len(n.round([]warrant.Rule{b})) > 0
	})
}

// plainWorlds are the worlds of P16, without thought for how long they take: nil, if one is exceeded.
func plainWorlds(blocks []warrant.Block, q warrant.Request) []naive {
	var worlds []naive
	for i, b := range blocks {
		said := slices.Concat(atoms(atom("time", date(q.Clock))), q.Facts, blocks[0].Facts)
		rules := blocks[0].Rules
		if i > 0 {
			said, rules = slices.Concat(said, b.Facts), slices.Concat(rules, b.Rules)
		}
		n := naiveOf(said)
		if len(n) > 60 || n.close(rules) > 12 || len(n) > 60 {
			return nil
		}
		worlds = append(worlds, n)
	}
	return worlds
}

// plainVerdict is P16 said again word by word, of a token whose tag is right. It tells besides what made it so.
func plainVerdict(blocks []warrant.Block, ids []string, q warrant.Request, policies []warrant.Policy) (verdict, why string) {
	for i, id := range ids {
		if slices.Contains(q.Revoked, id) {
			return "revoked", fmt.Sprint("block ", i)
		}
	}
	worlds := plainWorlds(blocks, q)
	if worlds == nil {
		return "exceeded", ""
	}
	for i, b := range blocks {
		for _, c := range b.Checks {
			if !worlds[i].holdsAny(c.Either) {
				return "deny", fmt.Sprint("a check of block ", i)
			}
		}
	}
	for _, p := range policies {
		switch holds := worlds[0].holdsAny(p.Either); {
		case holds && p.Allow:
			return "allow", ""
		case holds:
			return "deny", "a policy"
		}
	}
	return "deny", "no policy"
}

// fewBody is a body without a head; now and then it asks for the time.
func fewBody(r *rand.Rand) warrant.Rule {
	b := fewRule(r)
	b.Head = warrant.Atom{}
	if r.IntN(4) == 0 {
		return body(atoms(atom("time", variable("t"))), guard(variable("t"), 1+r.IntN(6), date(r.Int64N(4))))
	}
	return b
}

func fewBodies(r *rand.Rand) []warrant.Rule {
	return append([]warrant.Rule{fewBody(r)}, several(r, 3, fewBody)...)
}

// fewRequest revokes now and then one of the Sums.
func fewRequest(r *rand.Rand, ids []string) warrant.Request {
	q := warrant.Request{Clock: r.Int64N(4), Facts: several(r, 6, func(r *rand.Rand) warrant.Atom { return fewAtom(r) }), Revoked: []string{"x"}}
	if r.IntN(10) == 0 {
		q.Revoked = append(q.Revoked, few(r, ids...))
	}
	return q
}

// fewToken is one of one to four blocks.
func fewToken(t *testing.T, r *rand.Rand) (string, []warrant.Block) {
	t.Helper()
	var blocks []warrant.Block
	for range few(r, 1, 1, 2, 2, 3, 4) {
		b := fewBlock(r)
		b.Facts, b.Rules = b.Facts[:min(7, len(b.Facts))], b.Rules[:min(2, len(b.Rules))]
		b.Checks = several(r, 1, func(r *rand.Rand) warrant.Check { return warrant.Check{Either: fewBodies(r)} })
		blocks = append(blocks, b)
	}
	text, _ := chained("key", encodedAll(t, blocks...)...)
	if r.IntN(3) == 0 {
		text = sealed(t, text)
	}
	return text, blocks
}

// Random tokens, requests and policies, and what the document's words alone make of them.
func TestVerdictsRandom(t *testing.T) {
	r := rand.New(rand.NewPCG(16, 5))
	seen := map[string]int{}
	for range 3_000 {
		text, blocks := fewToken(t, r)
		ids := idsOf(t, text)
		q := fewRequest(r, ids)
		policies := several(r, 3, func(r *rand.Rand) warrant.Policy {
			return warrant.Policy{Allow: r.IntN(3) > 0, Either: fewBodies(r)}
		})
		want, why := plainVerdict(blocks, ids, q, policies)
		seen[want+" "+why]++
		asks(t, fmt.Sprintf("%#v, %#v, %#v", blocks, q, policies), "key", text, q, policies, want)
		if t.Failed() {
			return
		}
	}
	for _, want := range []string{"revoked block 0", "revoked block 1", "exceeded ", "deny a check of block 0", "deny a check of block 1", "deny a check of block 2", "deny a policy", "deny no policy", "allow "} {
		if seen[want] < 20 {
			t.Errorf("%q is seen %d times only, so this test tells little: %v", want, seen[want], seen)
		}
	}
}
