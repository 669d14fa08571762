package keepsake

import (
	"maps"
	"slices"
	"strings"

	"keepsake/sums"
)

// draft are the objects of a snapshot that is to be written: nothing of it counts before the snapshot is safe.
type draft struct {
	known objects     // these are not written again
	table *sums.Table // the archive's
	fresh objects     // these are to be written
	whole strings.Builder
	end   tip // behind their records
}

// object lays an object's record down, unless there is one, and tells its Sum.
func (w *draft) object(kind byte, text string) sums.Sum {
	sum := sums.SHA256(text)
	if w.known.has(kind, sum) || !w.fresh.add(kind, sum, object{at: w.end.at, size: len(text)}) {
		return sum
	}
	whole, end := w.end.lay(kind, text, w.table)
	w.whole.WriteString(whole)
	w.end = end
	return sum
}

// file lays down a file's chunks, in order, then its text.
func (w *draft) file(data string) sums.Sum {
	f := fileText{size: len(data)}
	for data != "" {
		n := min(chunkSize, len(data))
		f.chunks = append(f.chunks, w.object(chunkKind, data[:n]))
		data = data[n:]
	}
	return w.object(fileKind, f.text())
}

// dir lays down what is below a directory, in order, then its text.
func (w *draft) dir(n *node) sums.Sum {
	var links []link
	for _, name := range slices.Sorted(maps.Keys(n.below)) {
		l := link{name: name, kind: fileKind}
		if child := n.below[name]; child.isDir() {
			l.kind, l.sum = dirKind, w.dir(child)
		} else {
			l.sum = w.file(child.data)
		}
		links = append(links, l)
	}
	return w.object(dirKind, dirText(links))
}

// Snapshot keeps the tree as it is (P10).
func (a *Archive) Snapshot(label string) (int, error) {
	if a.broken {
		return 0, ErrDown
	}
	if len(label) > longestLabel {
		return 0, ErrBig
	}
	w := &draft{known: a.known, table: &a.table, fresh: newObjects(), end: a.end}
	s := snapshot{root: w.dir(a.tree.root), label: strings.Clone(label)}
	number := len(a.snapshots) + 1
	last, end := w.end.lay(snapshotKind, s.text(number), w.table)
	if end.at > a.disk.Sectors() {
		return 0, ErrFull
	}
	if err := a.write(w, last); err != nil {
		a.broken = true
		return 0, err
	}
	a.known.addAll(w.fresh)
	a.snapshots = append(a.snapshots, s)
	a.end = end
	return number, nil
}

// write makes the objects safe, if there are any, and only then writes the last record, which says that the snapshot is there.
func (a *Archive) write(w *draft, last string) error {
	if w.whole.Len() > 0 {
		if err := writeSectors(a.disk, a.end.at, w.whole.String()); err != nil {
			return err
		}
	}
	return writeSectors(a.disk, w.end.at, last)
}

// Snapshots tells all (P10).
func (a *Archive) Snapshots() []Info {
	var list []Info
	for i, s := range a.snapshots {
		list = append(list, Info{Number: i + 1, Label: s.label, Root: string(s.root[:])})
	}
	return list
}
