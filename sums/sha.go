// Package sums tells the sums by which texts are found and checked: SHA-256 and CRC-32.
package sums

import "math/bits"

const blockSize = 64

// Sum is an array, so that sums can be held against each other and be keys.
type Sum [32]byte

// startWords and roundWords are those of FIPS 180-4, 5.3.3 and 4.2.2.
var startWords = [8]uint32{
	0x6a09e667, 0xbb67ae85, 0x3c6ef372, 0xa54ff53a, 0x510e527f, 0x9b05688c, 0x1f83d9ab, 0x5be0cd19,
}

var roundWords = [64]uint32{
	0x428a2f98, 0x71374491, 0xb5c0fbcf, 0xe9b5dba5, 0x3956c25b, 0x59f111f1, 0x923f82a4, 0xab1c5ed5,
	0xd807aa98, 0x12835b01, 0x243185be, 0x550c7dc3, 0x72be5d74, 0x80deb1fe, 0x9bdc06a7, 0xc19bf174,
	0xe49b69c1, 0xefbe4786, 0x0fc19dc6, 0x240ca1cc, 0x2de92c6f, 0x4a7484aa, 0x5cb0a9dc, 0x76f988da,
	0x983e5152, 0xa831c66d, 0xb00327c8, 0xbf597fc7, 0xc6e00bf3, 0xd5a79147, 0x06ca6351, 0x14292967,
	0x27b70a85, 0x2e1b2138, 0x4d2c6dfc, 0x53380d13, 0x650a7354, 0x766a0abb, 0x81c2c92e, 0x92722c85,
	0xa2bfe8a1, 0xa81a664b, 0xc24b8b70, 0xc76c51a3, 0xd192e819, 0xd6990624, 0xf40e3585, 0x106aa070,
	0x19a4c116, 0x1e376c08, 0x2748774c, 0x34b0bcb5, 0x391c0cb3, 0x4ed8aa4a, 0x5b9cca4f, 0x682e6ff3,
	0x748f82ee, 0x78a5636f, 0x84c87814, 0x8cc70208, 0x90befffa, 0xa4506ceb, 0xbef9a3f7, 0xc67178f2,
}

// SHA256 tells a text's sum as FIPS 180-4 has it.
func SHA256(text string) Sum {
	state := startWords
	var block [blockSize]byte
	whole := len(text) / blockSize
	for i := range whole {
		copy(block[:], text[i*blockSize:])
		state = mix(state, block)
	}
	clear(block[:])
	n := copy(block[:], text[whole*blockSize:])
	block[n] = 0x80
	if n >= blockSize-8 { // the length needs the last eight bytes of a block
		state = mix(state, block)
		clear(block[:])
	}
	length := uint64(len(text)) * 8
	for i := range 8 {
		block[blockSize-1-i] = byte(length >> (8 * i))
	}
	return inBytes(mix(state, block))
}

// inBytes lays words down with the high byte first.
func inBytes(state [8]uint32) Sum {
	var sum Sum
	for i, word := range state {
		for j := range 4 {
			sum[4*i+j] = byte(word >> (24 - 8*j))
		}
	}
	return sum
}

// mix takes one block into the state.
func mix(state [8]uint32, block [blockSize]byte) [8]uint32 {
	words := schedule(block)
	turned := state
	for i := range len(words) {
		turned = round(turned, words[i]+roundWords[i])
	}
	for i := range len(state) {
		state[i] += turned[i]
	}
	return state
}

// schedule spreads a block over the words of all rounds.
func schedule(block [blockSize]byte) [64]uint32 {
	var words [64]uint32
	for i := range blockSize {
		words[i/4] = words[i/4]<<8 | uint32(block[i])
	}
	for k := range 48 {
		i := k + 16
		a, b := words[i-15], words[i-2]
		low := bits.RotateLeft32(a, -7) ^ bits.RotateLeft32(a, -18) ^ a>>3
		high := bits.RotateLeft32(b, -17) ^ bits.RotateLeft32(b, -19) ^ b>>10
		words[i] = words[i-16] + low + words[i-7] + high
	}
	return words
}

// round is one round of FIPS 180-4, 6.2.2, with its letters.
func round(s [8]uint32, word uint32) [8]uint32 {
	a, b, c, d, e, f, g, h := s[0], s[1], s[2], s[3], s[4], s[5], s[6], s[7]
	high := bits.RotateLeft32(e, -6) ^ bits.RotateLeft32(e, -11) ^ bits.RotateLeft32(e, -25)
	low := bits.RotateLeft32(a, -2) ^ bits.RotateLeft32(a, -13) ^ bits.RotateLeft32(a, -22)
	choice := e&f ^ ^e&g
	majority := a&b ^ a&c ^ b&c
	t := h + high + choice + word
	return [8]uint32{t + low + majority, a, b, c, d + t, e, f, g}
}
