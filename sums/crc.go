package sums

import "sync"

const crcTaps = 0xedb88320

// onceTable holds what four bits shifted out do to the rest: two steps a byte, and a table that is small.
type onceTable struct {
	once  sync.Once
	words [16]uint32
}

// crcTable is written once, by crcWords, and only read from then on.
var crcTable = onceTable{}

// crcWords makes the table when it is first asked for, whoever asks.
func crcWords() [16]uint32 {
	crcTable.once.Do(func() {
		for i := range uint32(16) {
			crcTable.words[i] = fourShifts(i)
		}
	})
	return crcTable.words
}

func fourShifts(word uint32) uint32 {
	for range 4 {
		out := word & 1
		word >>= 1
		if out == 1 {
			word ^= crcTaps
		}
	}
	return word
}

// CRC32 tells a text's CRC-32, lowest bit first.
func CRC32(text string) uint32 {
	words := crcWords()
	crc := ^uint32(0)
	for i := range len(text) {
		crc ^= uint32(text[i])
		crc = crc>>4 ^ words[crc&15]
		crc = crc>>4 ^ words[crc&15]
	}
	return ^crc
}
