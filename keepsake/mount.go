package keepsake

import "keepsake/sums"

// shape is how much stands in a directory, with all below.
type shape struct {
	deep  int // names behind one another
	names int // in all; of more than a tree may have, one more than that
}

// intake holds each record against P7 and takes in what it says.
type intake struct {
	known     objects
	snapshots []snapshot
	shapes    map[sums.Sum]shape // of the directories
}

func newIntake() *intake {
	return &intake{known: newObjects(), shapes: map[sums.Sum]shape{}}
}

// take tells whether a record is as P7 says, and if it is, takes it in.
func (in *intake) take(r record) bool {
	if r.kind == snapshotKind {
		return in.takeSnapshot(r.text)
	}
	sum := sums.SHA256(r.text)
	if !in.isObject(r.kind, sum, r.text) {
		return false
	}
	in.known.add(r.kind, sum, object{at: r.at, size: len(r.text)})
	return true
}

func (in *intake) isObject(kind byte, sum sums.Sum, text string) bool {
	switch kind {
	case chunkKind:
		return len(text) >= 1 && len(text) <= chunkSize
	case fileKind:
		return in.isFile(text)
	}
	return in.isDir(sum, text)
}

func (in *intake) isFile(text string) bool {
	f, ok := fileOf(text)
	if !ok {
		return false
	}
	for i, sum := range f.chunks {
		chunk, ok := in.known[chunkKind][sum]
		if !ok || chunk.size != f.chunkLength(i) {
			return false
		}
	}
	return true
}

// isDir remembers the directory's shape, for the snapshots that may come.
func (in *intake) isDir(sum sums.Sum, text string) bool {
	links, ok := linksOf(text)
	if !ok {
		return false
	}
	var whole shape
	for _, l := range links {
		if !in.known.has(l.kind, l.sum) {
			return false
		}
		var below shape
		if l.kind == dirKind {
			below = in.shapes[l.sum]
		}
		whole.deep = max(whole.deep, below.deep+1)
		whole.names = min(whole.names+below.names+1, mostInTree+1) // what is shared counts wherever it stands: the number itself may be past all bounds
	}
	in.shapes[sum] = whole
	return true
}

func (in *intake) takeSnapshot(text string) bool {
	s, ok := snapshotOf(text, len(in.snapshots)+1)
	if !ok || !in.known.has(dirKind, s.root) {
		return false
	}
	if whole := in.shapes[s.root]; whole.deep > mostDeep || whole.names > mostInTree {
		return false
	}
	in.snapshots = append(in.snapshots, s)
	return true
}
