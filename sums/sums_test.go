package sums

import (
	"crypto/sha256"
	"encoding/hex"
	"hash/crc32"
	"math/rand"
	"strings"
	"sync"
	"testing"
)

// samples are texts of every length around the edges of blocks, and a few long ones.
func samples() []string {
	r := rand.New(rand.NewSource(3))
	var list []string
	for _, n := range []int{1000, 4095, 4096, 4097, 100_003} {
		b := make([]byte, n)
		r.Read(b)
		list = append(list, string(b))
	}
	for n := range 260 {
		b := make([]byte, n)
		r.Read(b)
		list = append(list, string(b), strings.Repeat("\x00", n), strings.Repeat("\xff", n))
	}
	return list
}

// bitByBit is P3's rule for the CRC, word for word.
func bitByBit(text string) uint32 {
	crc := uint32(1<<32 - 1)
	for _, b := range []byte(text) {
		for bit := range 8 {
			out := crc & 1
			crc >>= 1
			if out != uint32(b>>bit&1) {
				crc ^= 0xedb88320
			}
		}
	}
	return crc ^ (1<<32 - 1)
}

func TestSHA256OfKnownTexts(t *testing.T) {
	for _, c := range [][2]string{
		{"", "e3b0c44298fc1c149afbf4c8996fb92427ae41e4649b934ca495991b7852b855"},
		{"abc", "ba7816bf8f01cfea414140de5dae2223b00361a396177a9cb410ff61f20015ad"},
		{"abcdbcdecdefdefgefghfghighijhijkijkljklmklmnlmnomnopnopq", "248d6a61d20638b8e5c026930c3e6039a33ce45964ff2167f6ecedd419db06c1"},
		{strings.Repeat("a", 1_000_000), "cdc76e5c9914fb9281a1c7e284d73e67f1809a48a497200e046d39ccc7112cd0"},
	} {
		sum := SHA256(c[0])
		if got := hex.EncodeToString(sum[:]); got != c[1] {
			t.Errorf("P3: Sum of %d bytes: %s, want %s", len(c[0]), got, c[1])
		}
	}
}

func TestSHA256OfEveryLength(t *testing.T) {
	for _, s := range samples() {
		if got, want := SHA256(s), Sum(sha256.Sum256([]byte(s))); got != want {
			t.Fatalf("P3: Sum of %d bytes: %x, want %x", len(s), got, want)
		}
	}
}

func TestCRC32OfKnownTexts(t *testing.T) {
	for text, want := range map[string]uint32{"": 0, "\x00": 0xd202ef8d, "\xff": 0xff000000, "123456789": 0xcbf43926} {
		if got := CRC32(text); got != want {
			t.Errorf("P3: CRC of %q: %08x, want %08x", text, got, want)
		}
	}
}

func TestCRC32OfEveryByteAndLength(t *testing.T) {
	list := samples()
	for b := range 256 {
		list = append(list, string([]byte{byte(b)}), string([]byte{7, byte(b)}))
	}
	for _, s := range list {
		got := CRC32(s)
		if got != bitByBit(s) || got != crc32.ChecksumIEEE([]byte(s)) {
			t.Fatalf("P3: CRC of %d bytes: %08x, want %08x", len(s), got, bitByBit(s))
		}
	}
}

// A table's words are made when the first asks: none that asks at the same time may see half of them.
func TestTableAskedByManyAtOnce(t *testing.T) {
	for range 50 {
		var table Table
		var got [16]uint32
		var start, done sync.WaitGroup
		start.Add(1)
		for i := range got {
			done.Go(func() {
				start.Wait()
				got[i] = table.CRC32("123456789")
			})
		}
		start.Done()
		done.Wait()
		for i, crc := range got {
			if crc != 0xcbf43926 {
				t.Fatalf("P3: CRC asked by number %d: %08x", i, crc)
			}
		}
	}
}

func TestTableIsMadeOnceWhenAskedFor(t *testing.T) {
	var table Table
	if table.CRC32("") != 0 || table.words != [16]uint32{} {
		t.Error("Ways: the words are there ahead of the first byte that asks")
	}
	if table.CRC32("123456789") != 0xcbf43926 {
		t.Error("P3: CRC by a table that was not asked yet")
	}
	if table.words[8] != 0xedb88320 {
		t.Errorf("Ways: the words are not there behind the first byte that asks: %x", table.words)
	}
	table.words[1]++
	changed := table.words
	table.CRC32("123456789")
	if table.words != changed {
		t.Error("Ways: the words are made more than once")
	}
}

func TestTableTellsManyTexts(t *testing.T) {
	var table Table
	for _, s := range samples() {
		if got, want := table.CRC32(s), bitByBit(s); got != want {
			t.Fatalf("P3: CRC of %d bytes, by one table for all: %08x, want %08x", len(s), got, want)
		}
	}
}
