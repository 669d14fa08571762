package keepsake

import (
	"strings"

	"keepsake/sums"
)

const (
	mark         = "archive1"
	leastSectors = 4
	firstRecord  = 1 // the sector behind the head
)

// headOf is what sector 0 holds of an archive on a disk of so many sectors (P7).
func headOf(sectors int) string {
	text := mark + fourBytes(uint32(sectors))
	return filledUp(text + fourBytes(sums.CRC32(text)))
}

// fourBytes lays a number down with the high byte first.
func fourBytes(n uint32) string {
	return string([]byte{byte(n >> 24), byte(n >> 16), byte(n >> 8), byte(n)})
}

// filledUp is a text that begins a sector, with 0 up to the sector's end.
func filledUp(text string) string {
	var s sector
	copy(s[:], text)
	return string(s[:])
}

// hasHead tells whether sector 0 says that an archive is on the disk.
func hasHead(d *Disk) bool {
	head, err := d.Read(0)
	return err == nil && head == headOf(d.Sectors())
}

// wipe writes 0 over all that stands from a sector on, and makes that safe.
func wipe(d *Disk, from int) error {
	blank := strings.Repeat("\x00", sectorSize)
	for at := from; at < d.Sectors(); at++ {
		held, err := d.Read(at)
		if err != nil {
			return err
		}
		if held == blank {
			continue
		}
		if err := d.Write(at, blank); err != nil {
			return err
		}
	}
	return d.Flush()
}
