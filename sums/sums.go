// Package sums makes the sums by which tokens are bound: SHA-256 (FIPS 180-4) and HMAC-SHA-256 (RFC 2104).
package sums

import (
	"math/bits"
	"slices"
)

const (
	size  = 32 // bytes of a sum
	chunk = 64 // bytes that are mixed in at once
)

// Sum is an array, so that two of them may be held against each other by ==.
type Sum [size]byte

// start is what a sum begins with: of the square roots of the first 8 primes the first 32 bits behind the point.
var start = [8]uint32{
	0x6a09e667, 0xbb67ae85, 0x3c6ef372, 0xa54ff53a, 0x510e527f, 0x9b05688c, 0x1f83d9ab, 0x5be0cd19,
}

// steps has a word for each step of a mixing: likewise of the cube roots of the first 64 primes.
var steps = [64]uint32{
	0x428a2f98, 0x71374491, 0xb5c0fbcf, 0xe9b5dba5, 0x3956c25b, 0x59f111f1, 0x923f82a4, 0xab1c5ed5,
	0xd807aa98, 0x12835b01, 0x243185be, 0x550c7dc3, 0x72be5d74, 0x80deb1fe, 0x9bdc06a7, 0xc19bf174,
	0xe49b69c1, 0xefbe4786, 0x0fc19dc6, 0x240ca1cc, 0x2de92c6f, 0x4a7484aa, 0x5cb0a9dc, 0x76f988da,
	0x983e5152, 0xa831c66d, 0xb00327c8, 0xbf597fc7, 0xc6e00bf3, 0xd5a79147, 0x06ca6351, 0x14292967,
	0x27b70a85, 0x2e1b2138, 0x4d2c6dfc, 0x53380d13, 0x650a7354, 0x766a0abb, 0x81c2c92e, 0x92722c85,
	0xa2bfe8a1, 0xa81a664b, 0xc24b8b70, 0xc76c51a3, 0xd192e819, 0xd6990624, 0xf40e3585, 0x106aa070,
	0x19a4c116, 0x1e376c08, 0x2748774c, 0x34b0bcb5, 0x391c0cb3, 0x4ed8aa4a, 0x5b9cca4f, 0x682e6ff3,
	0x748f82ee, 0x78a5636f, 0x84c87814, 0x8cc70208, 0x90befffa, 0xa4506ceb, 0xbef9a3f7, 0xc67178f2,
}

// Of tells the sum of texts, one behind the other.
func Of(texts ...string) Sum {
	m := mixer{words: start}
	for _, text := range texts {
		m.add(text)
	}
	return m.end()
}

// Keyed tells the HMAC of texts, one behind the other.
func Keyed(key string, texts ...string) Sum {
	var padded [chunk]byte
	if len(key) > chunk {
		short := Of(key)
		copy(padded[:], short[:])
	} else {
		copy(padded[:], key)
	}
	inner := Of(slices.Concat([]string{masked(padded, 0x36)}, texts)...)
	return Of(masked(padded, 0x5c), string(inner[:]))
}

func masked(key [chunk]byte, mask byte) string {
	for i := range key {
		key[i] ^= mask
	}
	return string(key[:])
}

// mixer is a sum in the making.
type mixer struct {
	words  [8]uint32
	held   [chunk]byte // bytes that wait until a chunk is whole
	count  int         // how many wait
	length uint64      // how many bytes were added in all
}

func (m *mixer) add(text string) {
	m.length += uint64(len(text))
	for len(text) > 0 {
		n := copy(m.held[m.count:], text)
		text = text[n:]
		m.count += n
		if m.count == chunk {
			m.mix()
			m.count = 0
		}
	}
}

// end closes the sum by a bit, zeros up to a whole chunk, and the length in bits.
func (m *mixer) end() Sum {
	m.held[m.count] = 0x80
	clear(m.held[m.count+1:])
	if m.count+1 > chunk-8 {
		m.mix()
		clear(m.held[:])
	}
	for i := range 8 {
		m.held[chunk-1-i] = byte(m.length * 8 >> (8 * i))
	}
	m.mix()
	var sum Sum
	for i, w := range m.words {
		for j := range 4 {
			sum[4*i+j] = byte(w >> (24 - 8*j))
		}
	}
	return sum
}

// mix takes the chunk that is held into the words; all adding wraps round.
func (m *mixer) mix() {
	plan := planned(m.held)
	a, b, c, d, e, f, g, h := m.words[0], m.words[1], m.words[2], m.words[3], m.words[4], m.words[5], m.words[6], m.words[7]
	for i := range 64 {
		turned := bits.RotateLeft32(e, -6) ^ bits.RotateLeft32(e, -11) ^ bits.RotateLeft32(e, -25)
		chosen := e&f ^ ^e&g
		one := h + turned + chosen + steps[i] + plan[i]
		turned = bits.RotateLeft32(a, -2) ^ bits.RotateLeft32(a, -13) ^ bits.RotateLeft32(a, -22)
		most := a&b ^ a&c ^ b&c
		a, b, c, d, e, f, g, h = one+turned+most, a, b, c, d+one, e, f, g
	}
	for i, w := range [8]uint32{a, b, c, d, e, f, g, h} {
		m.words[i] += w
	}
}

// planned makes of a chunk the word for each step.
func planned(held [chunk]byte) [64]uint32 {
	var plan [64]uint32
	for i := range 16 {
		for j := range 4 {
			plan[i] = plan[i]<<8 | uint32(held[4*i+j])
		}
	}
	for i := 16; i < len(plan); i++ {
		far, near := plan[i-15], plan[i-2]
		far = bits.RotateLeft32(far, -7) ^ bits.RotateLeft32(far, -18) ^ far>>3
		near = bits.RotateLeft32(near, -17) ^ bits.RotateLeft32(near, -19) ^ near>>10
		plan[i] = plan[i-16] + far + plan[i-7] + near
	}
	return plan
}
