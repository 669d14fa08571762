package keepsake

// Format makes an empty archive of a disk (P8).
func Format(d *Disk) error {
	if d.Sectors() < leastSectors {
		return ErrArg
	}
	if err := wipe(d, 0); err != nil {
		return err
	}
	if err := d.Write(0, headOf(d.Sectors())); err != nil {
		return err
	}
	return d.Flush()
}

// Archive is a tree, and its snapshots on a disk.
type Archive struct {
	tree tree
}

// Mount finds the archive of a disk (P9).
func Mount(d *Disk) (*Archive, error) {
	if d.Sectors() < leastSectors || !hasHead(d) {
		return nil, ErrFormat
	}
	if err := wipe(d, firstRecord); err != nil {
		return nil, err
	}
	return &Archive{tree: newTree()}, nil
}

// Write puts a file into the tree (P6).
func (a *Archive) Write(path, data string) error { return a.tree.write(path, data) }

// Mkdir puts a directory into the tree (P6).
func (a *Archive) Mkdir(path string) error { return a.tree.mkdir(path) }

// Remove takes something out of the tree (P6).
func (a *Archive) Remove(path string) error { return a.tree.remove(path) }

// Snapshot keeps the tree as it is (P10).
func (a *Archive) Snapshot(label string) (int, error) { return 0, nil }

// Snapshots tells all (P10).
func (a *Archive) Snapshots() []Info { return nil }

// Read tells a file of a snapshot, or of the tree (P11).
func (a *Archive) Read(n int, path string) (string, error) {
	names, err := namesOf(path)
	if err != nil {
		return "", err
	}
	found, err := a.find(n, names)
	if err != nil {
		return "", err
	}
	if found.isDir() {
		return "", ErrKind
	}
	return found.data, nil
}

// List tells what stands in a directory of a snapshot, or of the tree (P11): what stands there when it is gone through.
func (a *Archive) List(n int, path string) func(yield func(Entry, error) bool) {
	names, wrong := namesOf(path)
	return func(yield func(Entry, error) bool) {
		if yield == nil {
			return
		}
		list, err := []Entry(nil), wrong
		if err == nil {
			list, err = a.entries(n, names)
		}
		if err != nil {
			yield(Entry{}, err)
			return
		}
		for _, e := range list { // yield may change the directory: the list is apart from it
			if !yield(e, nil) {
				return
			}
		}
	}
}

// Verify looks for damage (P12).
func (a *Archive) Verify() error { return nil }

// entries tells a directory of the tree or of a snapshot.
func (a *Archive) entries(n int, names []string) ([]Entry, error) {
	found, err := a.find(n, names)
	if err != nil {
		return nil, err
	}
	if !found.isDir() {
		return nil, ErrKind
	}
	return found.entries(), nil
}

// find finds what stands in the tree (n is 0) or in a snapshot, of which there are none yet.
func (a *Archive) find(n int, names []string) (*node, error) {
	if n != 0 {
		return nil, ErrNone
	}
	return a.tree.find(names)
}
