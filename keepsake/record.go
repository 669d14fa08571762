package keepsake

import "keepsake/sums"

// The kinds of records (P7). All but a snapshot's are kinds of objects.
const (
	chunkKind = iota + 1
	fileKind
	dirKind
	snapshotKind
)

const (
	recordHead = 11 // bytes ahead of a record's text
	mostText   = 1000
)

// record is one that stands on the disk.
type record struct {
	kind byte
	at   int // its first sector
	text string
}

// tip is where the records end: what the next one hangs on.
type tip struct {
	at     int    // the first sector behind them
	number uint32 // the last one's; of none: 0
	crc    uint32 // the last one's; of none: sector 0's
}

// firstTip is the tip where no record is yet.
func firstTip(sectors int) tip { return tip{at: firstRecord, crc: headCRC(sectors)} }

// lay is a record as it stands behind the tip, in whole sectors, and the tip behind it.
func (t tip) lay(kind byte, text string, table *sums.Table) (string, tip) {
	number := t.number + 1
	begin := string([]byte{byte(len(text) >> 8), byte(len(text)), kind}) + fourBytes(number)
	crc := table.CRC32(fourBytes(t.crc) + begin + text)
	whole := inSectors(begin + fourBytes(crc) + text)
	return whole, tip{at: t.at + len(whole)/sectorSize, number: number, crc: crc}
}

// read reads the record behind the tip, and tells the tip behind it; or that there is none.
func (t tip) read(d *Disk, table *sums.Table) (record, tip, bool) {
	first, err := d.Read(t.at)
	if err != nil {
		return record{}, tip{}, false
	}
	size, kind := int(first[0])<<8|int(first[1]), first[2]
	if size > mostText || kind < chunkKind || kind > snapshotKind {
		return record{}, tip{}, false
	}
	held, err := readSectors(d, t.at, sectorsFor(recordHead+size))
	if err != nil { // it goes beyond the disk
		return record{}, tip{}, false
	}
	text := held[recordHead : recordHead+size]
	whole, next := t.lay(kind, text, table)
	if held != whole {
		return record{}, tip{}, false
	}
	return record{kind: kind, at: t.at, text: text}, next, true
}

// eachRecord calls take for each record of a disk, up to the first that is none or that take refuses; it tells the tip behind the last that was taken.
func eachRecord(d *Disk, table *sums.Table, take func(record) bool) tip {
	end := firstTip(d.Sectors())
	for {
		r, next, ok := end.read(d, table)
		if !ok || !take(r) {
			return end
		}
		end = next
	}
}
