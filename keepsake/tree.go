package keepsake

import (
	"maps"
	"slices"
	"strings"
)

const (
	mostFileBytes = 1536
	mostInDir     = 16
	mostInTree    = 256 // without the root
)

// node is a file or a directory.
type node struct {
	data  string
	below map[string]*node // nil: a file
}

func newDir() *node { return &node{below: map[string]*node{}} }

func (n *node) isDir() bool { return n.below != nil }

// entries tells what stands in a directory, in order.
func (n *node) entries() []Entry {
	var list []Entry
	for _, name := range slices.Sorted(maps.Keys(n.below)) {
		child := n.below[name]
		list = append(list, Entry{Name: name, Dir: child.isDir(), Size: len(child.data)})
	}
	return list
}

// tree is what an archive's next snapshot is made of.
type tree struct {
	root  *node
	names int // how many stand in all directories together
}

func newTree() tree { return tree{root: newDir()} }

// find goes through names, from the root on (P5).
func (t *tree) find(names []string) (*node, error) {
	at := t.root
	for _, name := range names {
		if !at.isDir() {
			return nil, ErrKind
		}
		next, ok := at.below[name]
		if !ok {
			return nil, ErrNone
		}
		at = next
	}
	return at, nil
}

// read tells a file (P11).
func (t *tree) read(names []string) (string, error) {
	found, err := t.find(names)
	if err != nil {
		return "", err
	}
	if found.isDir() {
		return "", ErrKind
	}
	return found.data, nil
}

// list tells a directory (P11).
func (t *tree) list(names []string) ([]Entry, error) {
	found, err := t.find(names)
	if err != nil {
		return nil, err
	}
	if !found.isDir() {
		return nil, ErrKind
	}
	return found.entries(), nil
}

// place finds the directory in which a path's last name stands or would stand, and that name; the root's has none.
func (t *tree) place(path string) (*node, string, error) {
	names, err := namesOf(path)
	if err != nil {
		return nil, "", err
	}
	if len(names) == 0 {
		return nil, "", ErrPath
	}
	last := len(names) - 1
	dir, err := t.find(names[:last])
	if err != nil {
		return nil, "", err
	}
	if !dir.isDir() {
		return nil, "", ErrKind
	}
	return dir, names[last], nil
}

// write puts a file (P6).
func (t *tree) write(path, data string) error {
	dir, name, err := t.place(path)
	if len(data) > mostFileBytes && err != ErrPath { // of place's errors ErrPath alone is named ahead of ErrBig
		return ErrBig
	}
	if err != nil {
		return err
	}
	old, ok := dir.below[name]
	switch {
	case !ok:
		return t.add(dir, name, &node{data: strings.Clone(data)})
	case old.isDir():
		return ErrKind
	}
	old.data = strings.Clone(data)
	return nil
}

// mkdir puts a directory (P6).
func (t *tree) mkdir(path string) error {
	dir, name, err := t.place(path)
	if err != nil {
		return err
	}
	if _, ok := dir.below[name]; ok {
		return ErrAgain
	}
	return t.add(dir, name, newDir())
}

// add puts something where nothing stands, if there is room for one more name.
func (t *tree) add(dir *node, name string, n *node) error {
	if len(dir.below) >= mostInDir || t.names >= mostInTree {
		return ErrMany
	}
	dir.below[name] = n
	t.names++
	return nil
}

// remove takes something out (P6).
func (t *tree) remove(path string) error {
	dir, name, err := t.place(path)
	if err != nil {
		return err
	}
	old, ok := dir.below[name]
	if !ok {
		return ErrNone
	}
	if len(old.below) > 0 {
		return ErrBusy
	}
	delete(dir.below, name)
	t.names--
	return nil
}
