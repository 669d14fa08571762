package keepsake

import (
	"slices"
	"strings"
	"testing"

	"keepsake/sums"
)

// Two texts with one SHA-256 are not known, but takeObject is told a record's Sum apart from its text: here the tests choose it.

// chosen is a Sum of the tests' own.
func chosen(n byte) sums.Sum { return sums.Sum{0: n, 31: 1} }

// The Sums of what newTaker takes in: an empty directory, and then one with one name behind another, with two ..
const (
	empty   byte = 0
	deepest byte = 8
	names14 byte = 14 // directories with that many names
	names15 byte = 15
	names16 byte = 16
	twice   byte = 100 // the object of which there are several records
	above   byte = 101 // directories in which that one stands
	behind  byte = 102
)

// taker hands records to an intake, each behind the last.
type taker struct {
	t  *testing.T
	in *intake
	at int
}

// newTaker is one whose intake knows the directories from empty to names16.
func newTaker(t *testing.T) *taker {
	h := &taker{t: t, in: newIntake(), at: firstRecord}
	h.wantObject(true, dirKind, empty, "")
	for n := range deepest {
		h.wantObject(true, dirKind, n+1, dirOf(n))
	}
	for _, n := range []byte{names14, names15, names16} {
		h.wantObject(true, dirKind, n, dirOf(slices.Repeat([]byte{empty}, int(n))...))
	}
	return h
}

// dirOf is the text of a directory with these directories in it.
func dirOf(below ...byte) string {
	var links []link
	for i, sum := range below {
		links = append(links, link{name: string(rune('a' + i)), kind: dirKind, sum: chosen(sum)})
	}
	return dirText(links)
}

// manyNames is the text of a directory with 241 names and those of the last.
func manyNames(last byte) string {
	return dirOf(append(slices.Repeat([]byte{names15}, 15), last)...)
}

// wantObject tells whether the next record is taken, and in which sector it stood.
func (h *taker) wantObject(want bool, kind, sum byte, text string) int {
	h.t.Helper()
	at := h.at
	if got := h.in.takeObject(record{kind: kind, at: at, text: text}, chosen(sum)); got != want {
		h.t.Fatalf("P7: kind %d, Sum %d, %q: taken %v, want %v", kind, sum, text, got, want)
	}
	h.at += sectorsFor(recordHead + len(text))
	return at
}

// wantSnapshot tells whether a snapshot of a directory is taken as the next.
func (h *taker) wantSnapshot(what string, want bool, root byte) {
	h.t.Helper()
	before := len(h.in.snapshots)
	s := snapshot{root: chosen(root)}
	if got := h.in.takeSnapshot(s.text(before + 1)); got != want {
		h.t.Errorf("P7: %s: a snapshot of Sum %d: taken %v, want %v", what, root, got, want)
	}
	after := before
	if want {
		after++
	}
	if got := len(h.in.snapshots); got != after {
		h.t.Errorf("P9: %s: %d snapshots, want %d", what, got, after)
	}
}

// wantMeant tells where the record stands that is meant, and how many bytes its text has.
func (h *taker) wantMeant(kind, sum byte, want object) {
	h.t.Helper()
	if got := h.in.known[kind][chosen(sum)]; got != want {
		h.t.Errorf("P7: kind %d, Sum %d: %v is meant, want %v", kind, sum, got, want)
	}
}

// TestOfTwoDirectoriesTheFirstIsMeant: of one a snapshot may be, of the other none.
func TestOfTwoDirectoriesTheFirstIsMeant(t *testing.T) {
	for what, texts := range map[string][2]string{
		"one name, and nine behind one another": {dirOf(empty), dirOf(deepest)},
		"eight names behind one another, nine":  {dirOf(deepest - 1), dirOf(deepest)},
		"no name, and nine behind one another":  {"", dirOf(deepest)},
		"256 names in all, 257":                 {manyNames(names15), manyNames(names16)},
		"one name, and 257 in all":              {dirOf(empty), manyNames(names16)},
	} {
		for first := range texts {
			h := newTaker(t)
			at := h.wantObject(true, dirKind, twice, texts[first])
			h.wantObject(true, dirKind, twice, texts[1-first])
			h.wantObject(true, dirKind, twice, texts[1-first])
			h.wantMeant(dirKind, twice, object{at: at, size: len(texts[first])})
			h.wantSnapshot(what, first == 0, twice)
		}
	}
}

// TestTheFirstIsMeantInWhatStandsAbove: in a directory one more name stands than in the one below it, wherever its record is.
func TestTheFirstIsMeantInWhatStandsAbove(t *testing.T) {
	for what, texts := range map[string][2]string{
		"seven names behind one another, eight": {dirOf(deepest - 2), dirOf(deepest - 1)},
		"255 names in all, 256":                 {manyNames(names14), manyNames(names15)},
	} {
		for first := range texts {
			h := newTaker(t)
			h.wantObject(true, dirKind, twice, texts[first])
			h.wantObject(true, dirKind, above, dirOf(twice))
			h.wantObject(true, dirKind, twice, texts[1-first])
			h.wantObject(true, dirKind, behind, dirOf(twice))
			h.wantSnapshot(what, true, twice)
			h.wantSnapshot(what, first == 0, above)
			h.wantSnapshot(what, first == 0, behind)
		}
	}
}

// TestADirectoryWithTheSumOfOthers: those of other kinds are other objects, and say nothing of it.
func TestADirectoryWithTheSumOfOthers(t *testing.T) {
	for what, ahead := range map[string]bool{"ahead": true, "behind": false} {
		for root, want := range map[string]bool{dirOf(deepest - 1): true, dirOf(deepest): false} {
			h := newTaker(t)
			others := func() {
				h.wantObject(true, chunkKind, twice, "x")
				h.wantObject(true, fileKind, twice, fourBytes(0))
			}
			if ahead {
				others()
				h.wantSnapshot("a chunk and a file alone", false, twice)
			}
			at := h.wantObject(true, dirKind, twice, root)
			if !ahead {
				others()
			}
			h.wantMeant(dirKind, twice, object{at: at, size: len(root)})
			h.wantSnapshot("a chunk and a file "+what, want, twice)
		}
	}
}

// TestASecondRecordIsHeldAgainstP7: that it is not meant does not make it a record.
func TestASecondRecordIsHeldAgainstP7(t *testing.T) {
	h := newTaker(t)
	h.wantObject(true, dirKind, twice, dirOf(empty))
	h.wantObject(true, chunkKind, twice, "x")
	h.wantObject(true, fileKind, twice, fourBytes(0))
	h.wantObject(false, dirKind, twice, dirOf(above))
	h.wantObject(false, dirKind, twice, "x")
	h.wantObject(false, chunkKind, twice, "")
	h.wantObject(false, chunkKind, twice, strings.Repeat("x", chunkSize+1))
	h.wantObject(false, fileKind, twice, fourBytes(1))
	h.wantSnapshot("records that are none", true, twice)
}

// TestOfTwoChunksTheFirstIsMeant: a file's chunk has the first one's size.
func TestOfTwoChunksTheFirstIsMeant(t *testing.T) {
	h := newTaker(t)
	at := h.wantObject(true, chunkKind, twice, "five!")
	h.wantObject(true, chunkKind, twice, "seven!!")
	h.wantMeant(chunkKind, twice, object{at: at, size: 5})
	h.wantObject(false, fileKind, above, fileText{size: 7, chunks: []sums.Sum{chosen(twice)}}.text())
	h.wantObject(true, fileKind, above, fileText{size: 5, chunks: []sums.Sum{chosen(twice)}}.text())
}
