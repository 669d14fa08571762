package keepsake

import (
	"maps"

	"keepsake/sums"
)

// object is where a chunk, a file or a directory is kept.
type object struct {
	at   int // its record's first sector
	size int // its text's bytes
}

// objects are known by their kind and their Sum together.
type objects [snapshotKind]map[sums.Sum]object

func newObjects() objects {
	var o objects
	for kind := range o {
		o[kind] = map[sums.Sum]object{}
	}
	return o
}

func (o objects) has(kind byte, sum sums.Sum) bool {
	_, ok := o[kind][sum]
	return ok
}

// add takes an object's record in, but of several the first alone, and tells whether this is that one.
func (o objects) add(kind byte, sum sums.Sum, found object) bool {
	if o.has(kind, sum) {
		return false
	}
	o[kind][sum] = found
	return true
}

// addAll takes in what stands behind all that is known already.
func (o objects) addAll(more objects) {
	for kind := range o {
		maps.Copy(o[kind], more[kind])
	}
}

// intact tells whether an object's text on the disk still has its Sum, and that text.
func (o object) intact(d *Disk, sum sums.Sum) (string, bool) {
	held, err := readSectors(d, o.at, sectorsFor(recordHead+o.size))
	if err != nil {
		return "", false
	}
	text := held[recordHead : recordHead+o.size]
	return text, sums.SHA256(text) == sum
}

// firstDamaged finds, of the objects whose text on the disk has not its Sum any more, the sector of the one that stands first.
func (o objects) firstDamaged(d *Disk) (int, bool) {
	first, found := d.Sectors(), false
	for _, ofKind := range o {
		for sum, each := range ofKind {
			if each.at > first { // one that stands ahead of it is found already
				continue
			}
			if _, ok := each.intact(d, sum); !ok {
				first, found = each.at, true
			}
		}
	}
	return first, found
}
