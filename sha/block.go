package sha

import "math/bits"

const (
	steps      = 64 // of a block
	blockWords = blockSize / wordSize
)

// constants are the first bits behind the point of the cube roots of the first primes, one a step.
var constants = [steps]uint32{
	0x428a2f98, 0x71374491, 0xb5c0fbcf, 0xe9b5dba5, 0x3956c25b, 0x59f111f1, 0x923f82a4, 0xab1c5ed5,
	0xd807aa98, 0x12835b01, 0x243185be, 0x550c7dc3, 0x72be5d74, 0x80deb1fe, 0x9bdc06a7, 0xc19bf174,
	0xe49b69c1, 0xefbe4786, 0x0fc19dc6, 0x240ca1cc, 0x2de92c6f, 0x4a7484aa, 0x5cb0a9dc, 0x76f988da,
	0x983e5152, 0xa831c66d, 0xb00327c8, 0xbf597fc7, 0xc6e00bf3, 0xd5a79147, 0x06ca6351, 0x14292967,
	0x27b70a85, 0x2e1b2138, 0x4d2c6dfc, 0x53380d13, 0x650a7354, 0x766a0abb, 0x81c2c92e, 0x92722c85,
	0xa2bfe8a1, 0xa81a664b, 0xc24b8b70, 0xc76c51a3, 0xd192e819, 0xd6990624, 0xf40e3585, 0x106aa070,
	0x19a4c116, 0x1e376c08, 0x2748774c, 0x34b0bcb5, 0x391c0cb3, 0x4ed8aa4a, 0x5b9cca4f, 0x682e6ff3,
	0x748f82ee, 0x78a5636f, 0x84c87814, 0x8cc70208, 0x90befffa, 0xa4506ceb, 0xbef9a3f7, 0xc67178f2,
}

// Block answers the state behind a block.
func Block(state [8]uint32, block [64]byte) [8]uint32 {
	words := spread(block)
	a, b, c, d, e, f, g, h := state[0], state[1], state[2], state[3], state[4], state[5], state[6], state[7]
	for t, word := range words {
		t1 := h + great1(e) + choice(e, f, g) + constants[t] + word
		t2 := great0(a) + majority(a, b, c)
		a, b, c, d, e, f, g, h = t1+t2, a, b, c, d+t1, e, f, g
	}
	for i, x := range [8]uint32{a, b, c, d, e, f, g, h} {
		state[i] += x
	}
	return state
}

// spread answers a word for each step: those of the block, and what comes of them.
func spread(block [blockSize]byte) [steps]uint32 {
	var w [steps]uint32
	for i, x := range block {
		w[i/wordSize] = w[i/wordSize]<<8 | uint32(x)
	}
	for t := blockWords; t < steps; t++ {
		w[t] = small1(w[t-2]) + w[t-7] + small0(w[t-15]) + w[t-16]
	}
	return w
}

// choice answers f's bits where e has ones, and g's elsewhere.
func choice(e, f, g uint32) uint32 { return e&f ^ ^e&g }

// majority answers the bits that most have.
func majority(a, b, c uint32) uint32 { return a&b ^ a&c ^ b&c }

// small0 is s0 of the chapter.
func small0(x uint32) uint32 { return right(x, 7) ^ right(x, 18) ^ x>>3 }

// small1 is s1 of the chapter.
func small1(x uint32) uint32 { return right(x, 17) ^ right(x, 19) ^ x>>10 }

// great0 is S0 of the chapter.
func great0(x uint32) uint32 { return right(x, 2) ^ right(x, 13) ^ right(x, 22) }

// great1 is S1 of the chapter.
func great1(x uint32) uint32 { return right(x, 6) ^ right(x, 11) ^ right(x, 25) }

// right answers x turned right by n.
func right(x uint32, n int) uint32 { return bits.RotateLeft32(x, -n) }
