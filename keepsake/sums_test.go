package keepsake_test

import (
	"crypto/sha256"
	"encoding/hex"
	"hash/crc32"
	"strings"
	"testing"

	"keepsake/keepsake"
)

func TestSumAndCRCOfExample1(t *testing.T) {
	if got := hex.EncodeToString([]byte(keepsake.Sum("abc"))); got != "ba7816bf8f01cfea414140de5dae2223b00361a396177a9cb410ff61f20015ad" {
		t.Errorf("P3: Sum: %s", got)
	}
	if got := keepsake.CRC("123456789"); got != 0xcbf43926 {
		t.Errorf("P3: CRC: %08x", got)
	}
}

func TestSumAndCRCAtEdges(t *testing.T) {
	for _, n := range []int{0, 1, 54, 55, 56, 57, 63, 64, 65, 119, 120, 127, 128, 129, 1536, 1 << 20} {
		for _, unit := range []string{"\x00", "\xff", "z"} {
			s := strings.Repeat(unit, n)
			if got, want := keepsake.Sum(s), sha256.Sum256([]byte(s)); got != string(want[:]) {
				t.Errorf("P3: Sum of %d times %q: %x", n, unit, got)
			}
			if got, want := keepsake.CRC(s), crc32.ChecksumIEEE([]byte(s)); got != want {
				t.Errorf("P3: CRC of %d times %q: %08x", n, unit, got)
			}
		}
	}
}
