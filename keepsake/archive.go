package keepsake

import "keepsake/sums"

// Format makes an empty archive of a disk (P8).
func Format(d *Disk) error {
	if d.Sectors() < leastSectors {
		return ErrArg
	}
	if err := wipe(d, 0); err != nil {
		return err
	}
	return writeSectors(d, 0, headOf(d.Sectors()))
}

// Archive is a tree, and its snapshots on a disk.
type Archive struct {
	disk      *Disk
	tree      tree
	snapshots []snapshot
	known     objects
	end       tip        // behind the last record that counts
	broken    bool       // a Snapshot was ErrDown: what stands behind end on the disk is not known any more
	table     sums.Table // for the CRCs of all records
}

// Mount finds the archive of a disk (P9).
func Mount(d *Disk) (*Archive, error) {
	if d.Sectors() < leastSectors || !hasHead(d) {
		return nil, ErrFormat
	}
	a, in := &Archive{disk: d}, newIntake()
	a.end = eachRecord(d, &a.table, in.take)
	a.known, a.snapshots = in.known, in.snapshots
	last, err := a.lastTree()
	if err != nil {
		return nil, err
	}
	a.tree = last
	if err := wipe(d, a.end.at); err != nil {
		return nil, err
	}
	return a, nil
}

// Write puts a file into the tree (P6).
func (a *Archive) Write(path, data string) error { return a.tree.write(path, data) }

// Mkdir puts a directory into the tree (P6).
func (a *Archive) Mkdir(path string) error { return a.tree.mkdir(path) }

// Remove takes something out of the tree (P6).
func (a *Archive) Remove(path string) error { return a.tree.remove(path) }

// Read tells a file of a snapshot, or of the tree (P11).
func (a *Archive) Read(n int, path string) (string, error) {
	names, err := namesOf(path)
	if err != nil {
		return "", err
	}
	if n == 0 {
		return a.tree.read(names)
	}
	return a.readKept(n, names)
}

// List tells what stands in a directory of a snapshot, or of the tree (P11): what stands there when it is gone through.
func (a *Archive) List(n int, path string) func(yield func(Entry, error) bool) {
	names, wrong := namesOf(path)
	return func(yield func(Entry, error) bool) {
		if yield == nil {
			return
		}
		list, err := []Entry(nil), wrong
		if err == nil {
			list, err = a.entries(n, names)
		}
		if err != nil {
			yield(Entry{}, err)
			return
		}
		for _, e := range list { // yield may change the directory: the list is apart from it
			if !yield(e, nil) {
				return
			}
		}
	}
}

// entries tells a directory of a snapshot, or of the tree: all, or why not.
func (a *Archive) entries(n int, names []string) ([]Entry, error) {
	if n == 0 {
		return a.tree.list(names)
	}
	return a.listKept(n, names)
}

// Verify looks for damage (P12).
func (a *Archive) Verify() error {
	if at, found := a.known.firstDamaged(a.disk); found {
		return &Fault{At: at, Err: ErrCorrupt}
	}
	return nil
}
