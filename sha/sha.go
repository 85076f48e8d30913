// Package sha is layer 2: SHA-256 (FIPS 180-4), of a whole text and of a text in pieces.
package sha

import "math/bits"

const (
	blockBytes  = 64
	lengthBytes = 8 // the text's length in bits, at the end of the last block
)

// roundWords are the first 32 bits behind the point of the cube roots of the first 64 primes.
var roundWords = [64]uint32{
	0x428a2f98, 0x71374491, 0xb5c0fbcf, 0xe9b5dba5, 0x3956c25b, 0x59f111f1, 0x923f82a4, 0xab1c5ed5,
	0xd807aa98, 0x12835b01, 0x243185be, 0x550c7dc3, 0x72be5d74, 0x80deb1fe, 0x9bdc06a7, 0xc19bf174,
	0xe49b69c1, 0xefbe4786, 0x0fc19dc6, 0x240ca1cc, 0x2de92c6f, 0x4a7484aa, 0x5cb0a9dc, 0x76f988da,
	0x983e5152, 0xa831c66d, 0xb00327c8, 0xbf597fc7, 0xc6e00bf3, 0xd5a79147, 0x06ca6351, 0x14292967,
	0x27b70a85, 0x2e1b2138, 0x4d2c6dfc, 0x53380d13, 0x650a7354, 0x766a0abb, 0x81c2c92e, 0x92722c85,
	0xa2bfe8a1, 0xa81a664b, 0xc24b8b70, 0xc76c51a3, 0xd192e819, 0xd6990624, 0xf40e3585, 0x106aa070,
	0x19a4c116, 0x1e376c08, 0x2748774c, 0x34b0bcb5, 0x391c0cb3, 0x4ed8aa4a, 0x5b9cca4f, 0x682e6ff3,
	0x748f82ee, 0x78a5636f, 0x84c87814, 0x8cc70208, 0x90befffa, 0xa4506ceb, 0xbef9a3f7, 0xc67178f2,
}

// firstWords are the first 32 bits behind the point of the square roots of the first eight primes.
var firstWords = [8]uint32{
	0x6a09e667, 0xbb67ae85, 0x3c6ef372, 0xa54ff53a, 0x510e527f, 0x9b05688c, 0x1f83d9ab, 0x5be0cd19,
}

// State is a hash under way. The zero State is the hash of nothing yet.
type State struct {
	words [8]uint32
	block [blockBytes]byte
	count uint64
}

// New answers the hash of nothing yet.
func New() *State { return &State{} }

// Write puts p in behind what went in before.
func (s *State) Write(p []byte) {
	if s == nil {
		return
	}
	if s.count == 0 { // not in New: a State made by hand gets its first words too
		s.words = firstWords
	}
	for len(p) > 0 {
		at := int(s.count % blockBytes)
		n := copy(s.block[at:], p)
		if at+n == blockBytes {
			s.words = Compress(s.words, s.block)
		}
		s.count += uint64(n)
		p = p[n:]
	}
}

// Sum answers the hash of all that went in; more may go in behind.
func (s *State) Sum() [32]byte {
	if s == nil {
		return [32]byte{}
	}
	last := *s
	last.Write(Padding(s.count))
	var sum [32]byte
	for i, word := range last.words {
		sum[4*i] = byte(word >> 24)
		sum[4*i+1] = byte(word >> 16)
		sum[4*i+2] = byte(word >> 8)
		sum[4*i+3] = byte(word)
	}
	return sum
}

// Copy answers a State of its own with all that went into s.
func (s *State) Copy() *State {
	if s == nil {
		return nil
	}
	twin := *s
	return &twin
}

// Sum256 answers the hash of p.
func Sum256(p []byte) [32]byte {
	var s State
	s.Write(p)
	return s.Sum()
}

// Padding answers what stands behind n bytes, so that whole blocks come out.
func Padding(n uint64) []byte {
	size := blockBytes - int(n%blockBytes)
	if size < 1+lengthBytes {
		size += blockBytes
	}
	padding := make([]byte, size)
	padding[0] = 0x80
	for i := range lengthBytes {
		padding[size-1-i] = byte(8 * n >> (8 * i))
	}
	return padding
}

// Compress answers the eight words h with one block compressed into them.
func Compress(h [8]uint32, block [64]byte) [8]uint32 {
	w := schedule(block)
	a, b, c, d, e, f, g, k := h[0], h[1], h[2], h[3], h[4], h[5], h[6], h[7]
	for i := range 64 {
		t := k + turned(e, 6, 11, 25) + (e&f ^ ^e&g) + roundWords[i] + w[i]
		u := turned(a, 2, 13, 22) + (a&b ^ a&c ^ b&c)
		k, g, f, e, d, c, b, a = g, f, e, d+t, c, b, a, t+u
	}
	return [8]uint32{h[0] + a, h[1] + b, h[2] + c, h[3] + d, h[4] + e, h[5] + f, h[6] + g, h[7] + k}
}

// schedule answers the block's 16 words and the 48 that are made of them.
func schedule(block [blockBytes]byte) [64]uint32 {
	var w [64]uint32
	for i := range 16 {
		w[i] = uint32(block[4*i])<<24 | uint32(block[4*i+1])<<16 | uint32(block[4*i+2])<<8 | uint32(block[4*i+3])
	}
	for i := 16; i < 64; i++ {
		x, y := w[i-15], w[i-2]
		s0 := bits.RotateLeft32(x, -7) ^ bits.RotateLeft32(x, -18) ^ x>>3
		s1 := bits.RotateLeft32(y, -17) ^ bits.RotateLeft32(y, -19) ^ y>>10
		w[i] = w[i-16] + s0 + w[i-7] + s1
	}
	return w
}

// turned answers the exclusive or of x turned right by each of three counts of places.
func turned(x uint32, i, j, l int) uint32 {
	return bits.RotateLeft32(x, -i) ^ bits.RotateLeft32(x, -j) ^ bits.RotateLeft32(x, -l)
}
