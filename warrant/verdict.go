package warrant

import "slices"

// The verdicts: where several apply, it is the first of them.
const (
	verdictMalformed = iota + 1
	verdictBadTag
	verdictRevoked
	verdictExceeded
	verdictDeny
	verdictAllow
)

// clockName is the name of the fact that tells a request's clock.
const clockName = "time"

// isRevoked: one of a token's Sums is among those that are revoked.
func isRevoked(ids, revoked []string) bool {
	return slices.ContainsFunc(ids, func(id string) bool { return slices.Contains(revoked, id) })
}

// decided is the verdict on blocks whose tag is right and of which none is revoked. All worlds are closed ahead of the first check: that one of them is exceeded is told even if a check ahead of it fails.
func decided(blocks []Block, q Request, policies []Policy) int {
	worlds, room := worldsOf(blocks, q)
	if !room {
		return verdictExceeded
	}
	for i, b := range blocks {
		if !worlds[i].passes(b.Checks) {
			return verdictDeny
		}
	}
	if !worlds[0].allows(policies) {
		return verdictDeny
	}
	return verdictAllow
}

// worldsOf closes each block's world. A further block adds to what the first one says, and to that alone: what it tells is for nobody's checks but its own. It tells false if one of the worlds is more than may be.
func worldsOf(blocks []Block, q Request) ([]*world, bool) {
	clock := Atom{Name: clockName, Terms: []Term{{Kind: kindDate, Int: q.Clock}}}
	asked := Block{Facts: append([]Atom{clock}, q.Facts...)}
	first := united(asked, blocks[0])
	said := []Block{first}
	for _, b := range blocks[1:] {
		said = append(said, united(first, b))
	}
	var worlds []*world
	for _, b := range said {
		w, room := closedWorld(b.Facts, b.Rules)
		if !room {
			return nil, false
		}
		worlds = append(worlds, w)
	}
	return worlds, true
}

// united is the facts and the rules of both, in new lists: what came in is not written to, and one block may be united with several.
func united(a, b Block) Block {
	return Block{Facts: slices.Concat(a.Facts, b.Facts), Rules: slices.Concat(a.Rules, b.Rules)}
}

// passes: of each check a body holds.
func (w *world) passes(checks []Check) bool {
	for _, c := range checks {
		if !w.holdsAny(c.Either) {
			return false
		}
	}
	return true
}

// allows: the first policy of which a body holds says so.
func (w *world) allows(policies []Policy) bool {
	for _, p := range policies {
		if w.holdsAny(p.Either) {
			return p.Allow
		}
	}
	return false
}

func (w *world) holdsAny(bodies []Rule) bool {
	return slices.ContainsFunc(bodies, w.holds)
}

// holds: a rule's body holds in the facts that there are; nothing joins them.
func (w *world) holds(r Rule) bool {
	b := w.body(r)
	b.learn(0, len(w.facts))
	return b.agrees() && b.holds(b.alone)
}
