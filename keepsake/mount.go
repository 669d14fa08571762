package keepsake

import "keepsake/sums"

// shape is how much stands in a directory, with all below.
type shape struct {
	deep  int // names behind one another
	names int // in all; of more than a tree may have, one more than that
}

// intake holds each record against P7 and takes in what it says.
type intake struct {
	known     objects
	snapshots []snapshot
	shapes    map[sums.Sum]shape // of the directories that are known
}

func newIntake() *intake {
	return &intake{known: newObjects(), shapes: map[sums.Sum]shape{}}
}

// take tells whether a record is as P7 says, and if it is, takes it in.
func (in *intake) take(r record) bool {
	if r.kind == snapshotKind {
		return in.takeSnapshot(r.text)
	}
	return in.takeObject(r, sums.SHA256(r.text))
}

// takeObject takes in a record of the object with this Sum. Each record of an object must be as P7 says, but all that is remembered is the first one's: a later one may have another text.
func (in *intake) takeObject(r record, sum sums.Sum) bool {
	whole, ok := in.measure(r.kind, r.text)
	if !ok {
		return false
	}
	if in.known.add(r.kind, sum, object{at: r.at, size: len(r.text)}) && r.kind == dirKind {
		in.shapes[sum] = whole
	}
	return true
}

// measure tells the shape that an object of this kind and text has, and whether there may be one; chunks and files have none.
func (in *intake) measure(kind byte, text string) (shape, bool) {
	switch kind {
	case chunkKind:
		return shape{}, len(text) >= 1 && len(text) <= chunkSize
	case fileKind:
		return shape{}, in.isFile(text)
	}
	return in.measureDir(text)
}

func (in *intake) isFile(text string) bool {
	f, ok := fileOf(text)
	if !ok {
		return false
	}
	for i, sum := range f.chunks {
		chunk, ok := in.known[chunkKind][sum]
		if !ok || chunk.size != f.chunkLength(i) {
			return false
		}
	}
	return true
}

func (in *intake) measureDir(text string) (shape, bool) {
	links, ok := linksOf(text)
	if !ok {
		return shape{}, false
	}
	var whole shape
	for _, l := range links {
		if !in.known.has(l.kind, l.sum) {
			return shape{}, false
		}
		var below shape
		if l.kind == dirKind {
			below = in.shapes[l.sum]
		}
		whole.deep = max(whole.deep, below.deep+1)
		whole.names = min(whole.names+below.names+1, mostInTree+1) // what is shared counts wherever it stands: the number itself may be past all bounds
	}
	return whole, true
}

func (in *intake) takeSnapshot(text string) bool {
	s, ok := snapshotOf(text, len(in.snapshots)+1)
	if !ok || !in.known.has(dirKind, s.root) {
		return false
	}
	if whole := in.shapes[s.root]; whole.deep > mostDeep || whole.names > mostInTree {
		return false
	}
	in.snapshots = append(in.snapshots, s)
	return true
}
