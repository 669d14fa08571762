package keepsake

import (
	"strings"

	"keepsake/sums"
)

const (
	mark         = "archive1"
	leastSectors = 4
	firstRecord  = 1 // the sector behind the head
)

// headOf is what sector 0 holds of an archive on a disk of so many sectors (P7).
func headOf(sectors int) string {
	return inSectors(headBegin(sectors) + fourBytes(headCRC(sectors)))
}

func headBegin(sectors int) string { return mark + fourBytes(uint32(sectors)) }

func headCRC(sectors int) uint32 { return sums.CRC32(headBegin(sectors)) }

// fourBytes lays a number down with the high byte first.
func fourBytes(n uint32) string {
	return string([]byte{byte(n >> 24), byte(n >> 16), byte(n >> 8), byte(n)})
}

// inFour is the number that fourBytes laid down at the beginning of a text, which has four bytes at least.
func inFour(text string) uint32 {
	return uint32(text[0])<<24 | uint32(text[1])<<16 | uint32(text[2])<<8 | uint32(text[3])
}

// inSectors is a text with 0 up to its last sector's end.
func inSectors(text string) string {
	return text + strings.Repeat("\x00", sectorsFor(len(text))*sectorSize-len(text))
}

// sectorsFor is how many sectors so many bytes need.
func sectorsFor(bytes int) int { return (bytes + sectorSize - 1) / sectorSize }

// hasHead tells whether sector 0 says that an archive is on the disk.
func hasHead(d *Disk) bool {
	head, err := d.Read(0)
	return err == nil && head == headOf(d.Sectors())
}

// readSectors reads what stands in sectors behind one another.
func readSectors(d *Disk, at, sectors int) (string, error) {
	var all strings.Builder
	for i := range sectors {
		held, err := d.Read(at + i)
		if err != nil {
			return "", err
		}
		all.WriteString(held)
	}
	return all.String(), nil
}

// writeSectors writes whole sectors from one on, in order, and makes them safe.
func writeSectors(d *Disk, at int, whole string) error {
	for i := range len(whole) / sectorSize {
		if err := d.Write(at+i, whole[i*sectorSize:(i+1)*sectorSize]); err != nil {
			return err
		}
	}
	return d.Flush()
}

// wipe writes 0 over all that stands from a sector on, and makes that safe.
func wipe(d *Disk, from int) error {
	blank := strings.Repeat("\x00", sectorSize)
	for at := from; at < d.Sectors(); at++ {
		held, err := d.Read(at)
		if err != nil {
			return err
		}
		if held == blank {
			continue
		}
		if err := d.Write(at, blank); err != nil {
			return err
		}
	}
	return d.Flush()
}
