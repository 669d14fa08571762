package sums

import "sync"

const crcTaps = 0xedb88320

// Table tells CRCs; its zero value is ready. Its words are made once, when the first byte asks for them: whoever tells many CRCs keeps one Table for all of them.
type Table struct {
	once  sync.Once
	words [16]uint32 // what four bits shifted out do to the rest: two steps a byte, and a table that is small
}

// CRC32 tells a text's CRC-32, lowest bit first.
func (t *Table) CRC32(text string) uint32 {
	crc := ^uint32(0)
	for i := range len(text) {
		crc ^= uint32(text[i])
		crc = crc>>4 ^ t.word(crc&15)
		crc = crc>>4 ^ t.word(crc&15)
	}
	return ^crc
}

// word makes the words when it is first asked for one, whoever asks.
func (t *Table) word(bits uint32) uint32 {
	t.once.Do(func() {
		for i := range uint32(len(t.words)) {
			t.words[i] = fourShifts(i)
		}
	})
	return t.words[bits]
}

func fourShifts(word uint32) uint32 {
	for range 4 {
		out := word & 1
		word >>= 1
		if out == 1 {
			word ^= crcTaps
		}
	}
	return word
}

// CRC32 tells the CRC-32 of one text, by a table of its own.
func CRC32(text string) uint32 {
	var table Table
	return table.CRC32(text)
}
