package keepsake

import (
	"strings"

	"keepsake/sums"
)

// fetch reads an object's text from the disk, and holds it against its Sum.
func (a *Archive) fetch(kind byte, sum sums.Sum) (string, error) {
	kept := a.known[kind][sum]
	text, ok := kept.intact(a.disk, sum)
	if !ok {
		return "", &Fault{At: kept.at, Err: ErrCorrupt}
	}
	return text, nil
}

// fetchFile reads what a file's text says; that it is a file's was seen when it was read or written.
func (a *Archive) fetchFile(sum sums.Sum) (fileText, error) {
	text, err := a.fetch(fileKind, sum)
	if err != nil {
		return fileText{}, err
	}
	f, _ := fileOf(text)
	return f, nil
}

// fetchLinks reads what a directory's text says.
func (a *Archive) fetchLinks(sum sums.Sum) ([]link, error) {
	text, err := a.fetch(dirKind, sum)
	if err != nil {
		return nil, err
	}
	links, _ := linksOf(text)
	return links, nil
}

// fetchData reads a file's bytes.
func (a *Archive) fetchData(sum sums.Sum) (string, error) {
	f, err := a.fetchFile(sum)
	if err != nil {
		return "", err
	}
	var data strings.Builder
	for _, chunk := range f.chunks {
		text, err := a.fetch(chunkKind, chunk)
		if err != nil {
			return "", err
		}
		data.WriteString(text)
	}
	return data.String(), nil
}

// walk goes through names in a snapshot, from its root on (P5), and reads the directories on the way.
func (a *Archive) walk(n int, names []string) (link, error) {
	if n < 1 || n > len(a.snapshots) {
		return link{}, ErrNone
	}
	at := link{kind: dirKind, sum: a.snapshots[n-1].root}
onTheWay:
	for _, name := range names {
		if at.kind != dirKind {
			return link{}, ErrKind
		}
		links, err := a.fetchLinks(at.sum)
		if err != nil {
			return link{}, err
		}
		for _, l := range links {
			if l.name == name {
				at = l
				continue onTheWay
			}
		}
		return link{}, ErrNone
	}
	return at, nil
}

// readKept tells a file of a snapshot (P11).
func (a *Archive) readKept(n int, names []string) (string, error) {
	at, err := a.walk(n, names)
	if err != nil {
		return "", err
	}
	if at.kind != fileKind {
		return "", ErrKind
	}
	return a.fetchData(at.sum)
}

// listKept tells a directory of a snapshot (P11); the files' sizes stand in their own texts.
func (a *Archive) listKept(n int, names []string) ([]Entry, error) {
	at, err := a.walk(n, names)
	if err != nil {
		return nil, err
	}
	if at.kind != dirKind {
		return nil, ErrKind
	}
	links, err := a.fetchLinks(at.sum)
	if err != nil {
		return nil, err
	}
	var list []Entry
	for _, l := range links {
		e := Entry{Name: l.name, Dir: l.kind == dirKind}
		if !e.Dir {
			f, err := a.fetchFile(l.sum)
			if err != nil {
				return nil, err
			}
			e.Size = f.size
		}
		list = append(list, e)
	}
	return list, nil
}

// lastTree is the last snapshot's, or an empty one.
func (a *Archive) lastTree() (tree, error) {
	if len(a.snapshots) == 0 {
		return newTree(), nil
	}
	var t tree
	var err error
	t.root, err = a.grow(&t, a.snapshots[len(a.snapshots)-1].root)
	return t, err
}

// grow makes a directory's node with all below, and counts the names.
func (a *Archive) grow(t *tree, dir sums.Sum) (*node, error) {
	links, err := a.fetchLinks(dir)
	if err != nil {
		return nil, err
	}
	n := newDir()
	for _, l := range links {
		var child *node
		if l.kind == dirKind {
			child, err = a.grow(t, l.sum)
		} else {
			child, err = a.growFile(l.sum)
		}
		if err != nil {
			return nil, err
		}
		n.below[l.name] = child
		t.names++
	}
	return n, nil
}

func (a *Archive) growFile(file sums.Sum) (*node, error) {
	data, err := a.fetchData(file)
	if err != nil {
		return nil, err
	}
	return &node{data: data}, nil
}
