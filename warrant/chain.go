package warrant

import "warrant/sums"

const (
	tokenMark = "wrt1"   // what a token begins with
	sealWord  = "sealed" // what is bound behind a sealed token's last block
)

// chain is a token taken apart. Its tag is the last one alone: from it those ahead cannot be told, so nobody can leave out a block.
type chain struct {
	sealed bool
	links  []link
	tag    sums.Sum
}

// link is a block, and its bytes: these are what a tag binds.
type link struct {
	text  string
	block Block
}

// opened takes a token apart, whatever its tag is.
func opened(text string) (chain, error) {
	return decodeWhole(text, (*decoder).chain)
}

// unsealed takes a token apart behind which something may be put.
func unsealed(text string) (chain, error) {
	c, err := opened(text)
	if err != nil {
		return chain{}, err
	}
	if c.sealed {
		return chain{}, ErrSealed
	}
	return c, nil
}

func (d *decoder) chain() chain {
	if d.take(uint64(len(tokenMark))) != tokenMark {
		d.refuse(ErrBytes)
	}
	var c chain
	switch d.byte() {
	case 0:
	case 1:
		c.sealed = true
	default:
		d.refuse(ErrBytes)
	}
	c.links = decodeMany(d, mostBlocks, d.link)
	if len(c.links) == 0 {
		d.refuse(ErrBytes)
	}
	copy(c.tag[:], d.take(uint64(len(c.tag))))
	return c
}

// link asks for the length ahead of the bytes: one that is too great is told even if they are not there.
func (d *decoder) link() link {
	size := d.number()
	if size > mostBytes {
		d.refuse(ErrLimit)
	}
	text := d.take(size)
	b, err := Decode(text)
	if err != nil {
		d.refuse(err)
	}
	return link{text: text, block: b}
}

// add puts a block behind the others; what it needs of them is the tag alone.
func (c *chain) add(b Block) error {
	if len(c.links) == mostBlocks {
		return ErrLimit
	}
	text, err := Encode(b)
	if err != nil {
		return err
	}
	c.links = append(c.links, link{text: text, block: b})
	c.tag = bound(c.tag, text)
	return nil
}

func (c *chain) seal() {
	c.sealed = true
	c.tag = bound(c.tag, sealWord)
}

// bound tells the tag of what stands behind another tag.
func bound(tag sums.Sum, text string) sums.Sum {
	return sums.Keyed(string(tag[:]), text)
}

// tags tells which tag each block had when it was the last, if the key is the one by which the first was made.
func (c chain) tags(key string) []sums.Sum {
	tag := sums.Keyed(key, c.links[0].text)
	tags := []sums.Sum{tag}
	for _, l := range c.links[1:] {
		tag = bound(tag, l.text)
		tags = append(tags, tag)
	}
	return tags
}

// ends tells whether a chain whose last block had this tag has the tag that it has.
func (c chain) ends(last sums.Sum) bool {
	if c.sealed {
		last = bound(last, sealWord)
	}
	return c.tag == last
}

// whole puts a token together.
func (c chain) whole() string {
	var e encoder
	e.WriteString(tokenMark)
	if c.sealed {
		e.WriteByte(1)
	} else {
		e.WriteByte(0)
	}
	encodeMany(&e, c.links, e.link)
	e.Write(c.tag[:])
	return e.String()
}

func (e *encoder) link(l link) {
	e.text(l.text)
}

func isKey(key string) bool {
	return key != "" && len(key) <= mostKey
}
