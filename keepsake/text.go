package keepsake

import (
	"strings"

	"keepsake/sums"
)

const (
	chunkSize    = 96
	sumSize      = len(sums.Sum{})
	longestLabel = 20
)

// fileText is what a file's text says (P7).
type fileText struct {
	size   int
	chunks []sums.Sum
}

// text lays it down.
func (f fileText) text() string {
	var text strings.Builder
	text.WriteString(fourBytes(uint32(f.size)))
	for _, sum := range f.chunks {
		text.Write(sum[:])
	}
	return text.String()
}

// chunkLength is how many bytes the i-th chunk of a file has.
func (f fileText) chunkLength(i int) int { return min(chunkSize, f.size-i*chunkSize) }

// fileOf takes a file's text apart, if it is one.
func fileOf(text string) (fileText, bool) {
	if len(text) < 4 || inFour(text) > mostFileBytes {
		return fileText{}, false
	}
	f := fileText{size: int(inFour(text))}
	count := (f.size + chunkSize - 1) / chunkSize
	text = text[4:]
	if len(text) != count*sumSize {
		return fileText{}, false
	}
	for i := range count {
		f.chunks = append(f.chunks, sumAt(text[i*sumSize:]))
	}
	return f, true
}

// sumAt is the Sum at the beginning of a text.
func sumAt(text string) sums.Sum {
	var sum sums.Sum
	copy(sum[:], text)
	return sum
}

// link is what a directory's text says of a name.
type link struct {
	name string
	kind byte // fileKind or dirKind
	sum  sums.Sum
}

// linkBegin are a link's bytes ahead of its name; a file's first is 1, a directory's 2, each one less than its kind.
const linkBegin = 2

// dirText lays links down, which stand in order (P7).
func dirText(links []link) string {
	var text strings.Builder
	for _, l := range links {
		text.WriteByte(l.kind - 1)
		text.WriteByte(byte(len(l.name)))
		text.WriteString(l.name)
		text.Write(l.sum[:])
	}
	return text.String()
}

// linksOf takes a directory's text apart, if it is one.
func linksOf(text string) ([]link, bool) {
	var links []link
	last := "" // no name is this, and none is ahead of it
	for text != "" {
		l, rest, ok := firstLink(text)
		if !ok || l.name <= last || len(links) == mostInDir {
			return nil, false
		}
		links = append(links, l)
		text, last = rest, l.name
	}
	return links, true
}

// firstLink takes a link off the beginning of a text, if one stands there.
func firstLink(text string) (link, string, bool) {
	if len(text) < linkBegin {
		return link{}, "", false
	}
	kind, length, rest := text[0]+1, int(text[1]), text[linkBegin:]
	if kind != fileKind && kind != dirKind || len(rest) < length+sumSize || !isName(rest[:length]) {
		return link{}, "", false
	}
	l := link{name: strings.Clone(rest[:length]), kind: kind, sum: sumAt(rest[length:])}
	return l, rest[length+sumSize:], true
}

// snapshot is one that is kept; its number is its place in the archive's list, from 1 on.
type snapshot struct {
	root  sums.Sum
	label string
}

// text is the snapshot's record's (P7).
func (s snapshot) text(number int) string {
	return fourBytes(uint32(number)) + string(s.root[:]) + s.label
}

// snapshotOf takes the text of the snapshot with this number apart, if it is one.
func snapshotOf(text string, number int) (snapshot, bool) {
	const begin = 4 + sumSize
	if len(text) < begin || len(text) > begin+longestLabel || inFour(text) != uint32(number) {
		return snapshot{}, false
	}
	return snapshot{root: sumAt(text[4:]), label: strings.Clone(text[begin:])}, true
}
