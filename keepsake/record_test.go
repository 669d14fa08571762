package keepsake_test

import (
	"crypto/sha256"
	"encoding/binary"
	"hash/crc32"
	"slices"
	"strconv"
	"strings"
	"testing"

	"keepsake/keepsake"
)

// The kinds of records.
const (
	chunk byte = iota + 1
	file
	dir
	snap
)

// rec is a record that is to be laid.
type rec struct {
	kind byte
	text string
}

// paper is a disk laid down by hand: P7 told over again, by the library's sums.
type paper struct {
	sectors []string
	end     int // behind the last record
	number  uint32
	crc     uint32
	first   []int // each record's first sector
	records []rec
}

func newPaper(sectors int) *paper {
	p := &paper{sectors: blankButHead(sectors), end: 1}
	p.crc = binary.BigEndian.Uint32([]byte(p.sectors[0][12:16]))
	return p
}

func four(n uint32) string { return string(binary.BigEndian.AppendUint32(nil, n)) }

// lay lays a record behind the last.
func (p *paper) lay(r rec) {
	p.number++
	begin := string([]byte{byte(len(r.text) >> 8), byte(len(r.text)), r.kind}) + four(p.number)
	p.crc = crc32.ChecksumIEEE([]byte(four(p.crc) + begin + r.text))
	p.raw(begin + four(p.crc) + r.text)
	p.records = append(p.records, r)
}

// raw lays bytes down as if they were a record, with 0 up to the sector's end.
func (p *paper) raw(text string) {
	p.first = append(p.first, p.end)
	for text != "" {
		n := min(64, len(text))
		p.sectors[p.end] = text[:n] + full("\x00")[n:]
		text = text[n:]
		p.end++
	}
}

// clearedFrom are sectors of which all from one on are 0.
func clearedFrom(sectors []string, at int) []string {
	return append(slices.Clone(sectors[:at]), slices.Repeat([]string{full("\x00")}, len(sectors)-at)...)
}

// needs is how many sectors the records need behind sector 0.
func needs(records []rec) int {
	n := 0
	for _, r := range records {
		n += (11 + len(r.text) + 63) / 64
	}
	return n
}

func sumOf(text string) string {
	s := sha256.Sum256([]byte(text))
	return string(s[:])
}

// pieces are a file's chunks.
func pieces(data string) []string {
	var all []string
	for data != "" {
		n := min(96, len(data))
		all = append(all, data[:n])
		data = data[n:]
	}
	return all
}

func fileText(size uint32, chunks ...string) string {
	text := four(size)
	for _, c := range chunks {
		text += sumOf(c)
	}
	return text
}

func textOfFile(data string) string { return fileText(uint32(len(data)), pieces(data)...) }

// to is one name of a directory's text; what is 1 or 2.
func to(what byte, name, text string) string {
	return string([]byte{what, byte(len(name))}) + name + sumOf(text)
}

func snapText(number uint32, root, label string) string { return four(number) + sumOf(root) + label }

// wantTaken lays records down with something behind them, and tells that Mount takes the first so many, and clears the rest.
func wantTaken(t *testing.T, what string, records []rec, taken int) *keepsake.Archive {
	t.Helper()
	p := newPaper(max(4, needs(records)+3))
	for _, r := range records {
		p.lay(r)
	}
	d := laid(t, p.sectors)
	wantError(t, "P4: Write", d.Write(d.Sectors()-1, full("z")), nil)
	a := mounted(t, d)
	wantWaiting(t, d, 0)
	d.Crash()
	wantImage(t, "P9: "+what, d, clearedFrom(p.sectors, append(p.first, p.end)[taken]))
	snapshots := 0
	for _, r := range records[:taken] {
		if r.kind == snap {
			snapshots++
		}
	}
	if got := len(a.Snapshots()); got != snapshots {
		t.Errorf("P9: %s: %d snapshots, want %d", what, got, snapshots)
	}
	if t.Failed() {
		t.FailNow()
	}
	return a
}

// wantAll and wantAllButLast tell how many of the records are as P7 says. What comes behind them is as P7 says.
func wantAll(t *testing.T, what string, records ...rec) *keepsake.Archive {
	t.Helper()
	wantTaken(t, what, append(slices.Clone(records), rec{chunk, "behind"}), len(records)+1)
	return wantTaken(t, what, records, len(records))
}

func wantAllButLast(t *testing.T, what string, records ...rec) {
	t.Helper()
	wantTaken(t, what, append(slices.Clone(records), rec{chunk, "behind"}), len(records)-1)
}

func TestChunksThatAreAndAreNot(t *testing.T) {
	for n := range 98 {
		r := rec{chunk, strings.Repeat("c", n)}
		if n >= 1 && n <= 96 {
			wantAll(t, "a chunk of "+strconv.Itoa(n)+" bytes", r)
		} else {
			wantAllButLast(t, "a chunk of "+strconv.Itoa(n)+" bytes", r)
		}
	}
	for _, n := range []int{117, 181, 255, 256, 300, 999, 1000, 1001, 65535} {
		wantAllButLast(t, "a chunk of "+strconv.Itoa(n)+" bytes", rec{chunk, "c"}, rec{chunk, strings.Repeat("c", n)})
	}
}

func TestKindsThatAreNot(t *testing.T) {
	for kind := range 256 {
		if kind < 1 || kind > 4 {
			wantAllButLast(t, "kind "+strconv.Itoa(kind), rec{chunk, "c"}, rec{byte(kind), "c"})
			wantAllButLast(t, "kind "+strconv.Itoa(kind)+" without a text", rec{byte(kind), ""})
		}
	}
}

func TestFilesThatAre(t *testing.T) {
	wantAll(t, "a file of no bytes", rec{file, four(0)})
	for _, n := range []int{1, 95, 96, 97, 191, 192, 193, 1440, 1441, 1535, 1536} {
		data := strings.Repeat("0123456789abcdefghijk", 74)[:n]
		var records []rec
		for _, c := range pieces(data) {
			records = append(records, rec{chunk, c})
		}
		records = append(records, rec{file, textOfFile(data)}, rec{dir, to(1, "f", textOfFile(data))}, rec{snap, snapText(1, to(1, "f", textOfFile(data)), "")})
		a := wantTaken(t, "a file of "+strconv.Itoa(n)+" bytes", records, len(records))
		wantFile(t, a, 0, "f", data)
		wantFile(t, a, 1, "f", data)
	}
}

func TestFilesThatAreNot(t *testing.T) {
	whole, short, other := strings.Repeat("w", 96), "short", "other"
	known := []rec{{chunk, whole}, {chunk, short}, {chunk, other}, {file, fileText(5, short)}, {dir, ""}}
	with := func(text string) []rec { return append(slices.Clone(known), rec{file, text}) }
	for what, text := range map[string]string{
		"no text":                                 "",
		"three bytes":                             "\x00\x00\x00",
		"no bytes, and a chunk":                   fileText(0, short),
		"a size, and no chunk":                    fileText(5),
		"a chunk too many":                        fileText(5, short, other),
		"a whole chunk too many":                  fileText(96, whole, whole),
		"a chunk too few":                         fileText(97, whole),
		"a byte behind the last Sum":              fileText(5, short) + "x",
		"half a Sum":                              fileText(5, short)[:20],
		"a chunk that is too short":               fileText(6, short),
		"a chunk that is too long":                fileText(4, short),
		"a last chunk that is too long":           fileText(97, whole, short),
		"a last chunk that is too short":          fileText(103, whole, short),
		"a last chunk that is whole, and may not": fileText(191, whole, whole),
		"a short chunk ahead":                     fileText(101, short, whole),
		"a short chunk in the middle":             fileText(197, whole, short, whole),
		"a chunk that is not there":               fileText(5, "there"),
		"a last chunk that is not there":          fileText(101, whole, "there"),
		"a first chunk that is not there":         fileText(101, strings.Repeat("v", 96), short),
		"more than 1,536 bytes":                   fileText(1537, append(slices.Repeat([]string{whole}, 16), "!")...),
		"1,632 bytes":                             fileText(1632, slices.Repeat([]string{whole}, 17)...),
		"a size beyond all":                       fileText(0xffffffff, short),
		"a size whose low bytes are right":        fileText(1<<16+5, short),
		"the high byte last":                      "\x05\x00\x00\x00" + sumOf(short),
		"a file's Sum for a chunk's":              fileText(36, fileText(5, short)),
		"a directory's Sum for a chunk's":         fileText(1, ""),
	} {
		wantAllButLast(t, "a file: "+what, with(text)...)
	}
	wantAll(t, "files of what is known", append(slices.Clone(known), rec{file, fileText(101, whole, other)}, rec{file, fileText(197, whole, whole, short)})...)
	wantTaken(t, "a file ahead of its chunk", []rec{{file, fileText(5, short)}, {chunk, short}}, 0)
	wantTaken(t, "a file ahead of its chunk", []rec{{chunk, whole}, {file, fileText(5, short)}, {chunk, short}}, 1)
	wantAllButLast(t, "1,537 bytes", rec{chunk, whole}, rec{chunk, "!"}, rec{file, fileText(1537, append(slices.Repeat([]string{whole}, 16), "!")...)})
}

func TestDirectoriesThatAre(t *testing.T) {
	f, g := textOfFile("x"), textOfFile("")
	known := []rec{{chunk, "x"}, {file, f}, {file, g}, {dir, ""}, {dir, to(1, "f", f)}}
	with := func(text string) []rec { return append(slices.Clone(known), rec{dir, text}) }
	many := ""
	for i := range 16 {
		many += to(byte(1+i%2), strings.Repeat(letter(i), 16), []string{f, ""}[i%2])
	}
	for what, text := range map[string]string{
		"a file":                         to(1, "f", f),
		"an empty directory":             to(2, "d", ""),
		"a directory with a file":        to(2, "d", to(1, "f", f)),
		"one twice":                      to(1, "a", f) + to(1, "b", f) + to(2, "c", "") + to(2, "d", ""),
		"names of all bytes":             to(1, "-", f) + to(1, ".", f) + to(1, "..", g) + to(2, "0", "") + to(1, "9", f) + to(1, "_", f) + to(1, "a", f) + to(1, "z", f),
		"one the other's beginning":      to(1, "a", f) + to(1, "a-", f) + to(1, "aa", f),
		"sixteen of the longest names":   many,
		"the longest name":               to(1, strings.Repeat("z", 16), f),
		"a short name behind a long one": to(1, "aaaa", f) + to(1, "b", g),
	} {
		wantAll(t, "a directory of "+what, with(text)...)
	}
}

func TestDirectoriesThatAreNot(t *testing.T) {
	f, g := textOfFile("x"), textOfFile("")
	known := []rec{{chunk, "x"}, {file, f}, {file, g}, {dir, ""}, {chunk, "like a chunk"}}
	with := func(text string) []rec { return append(slices.Clone(known), rec{dir, text}) }
	many := ""
	for i := range 17 {
		many += to(1, letter(i), f)
	}
	for what, text := range map[string]string{
		"one byte":                              "\x01",
		"no name":                               to(1, "", f),
		"no name behind another":                to(1, "a", f) + to(1, "", f),
		"a name of 17 bytes":                    to(1, strings.Repeat("n", 17), f),
		"a name with a bad byte":                to(1, "aB", f),
		"a name with a slash":                   to(1, "a/b", f),
		"a name with a byte that is no rune":    to(1, "a\xff", f),
		"a name with 0":                         to(1, "a\x00", f),
		"what is neither":                       to(0, "a", f),
		"what is neither, 3":                    to(3, "a", f),
		"what is neither, 255":                  to(255, "a", f),
		"falling names":                         to(1, "b", f) + to(1, "a", f),
		"one name twice":                        to(1, "a", f) + to(1, "a", g),
		"one name twice, of both kinds":         to(1, "a", f) + to(2, "a", ""),
		"a name behind one that begins with it": to(1, "ab", f) + to(1, "a", g),
		"names by length":                       to(1, "b", f) + to(1, "aa", g),
		"seventeen names":                       many,
		"no Sum":                                to(1, "a", f)[:3],
		"half a Sum":                            to(1, "a", f)[:34],
		"a byte behind":                         to(1, "a", f) + "\x00",
		"half a second one":                     to(1, "a", f) + to(1, "b", f)[:20],
		"a name longer than the text":           "\x01\xffaaaa",
		"a name up to the text's end":           "\x01\x10aaaaaaaaaaaaaaaa",
		"a file that is not there":              to(1, "a", textOfFile("y")),
		"a second one that is not there":        to(1, "a", f) + to(1, "b", "nothing"),
		"a directory that is not there":         to(2, "a", to(1, "f", f)),
		"a directory for a file":                to(1, "a", ""),
		"a file for a directory":                to(2, "a", f),
		"a chunk for a file":                    to(1, "a", "x"),
		"a chunk for a directory":               to(2, "a", "like a chunk"),
	} {
		wantAllButLast(t, "a directory: "+what, with(text)...)
	}
	wantTaken(t, "a directory ahead of what stands in it", []rec{{dir, to(2, "a", "")}, {dir, ""}}, 0)
}

// A text may be that of two kinds: each is an object of its own.
func TestOneSumOfTwoKinds(t *testing.T) {
	f := textOfFile("")
	wantAllButLast(t, "a chunk is no file", rec{chunk, f}, rec{dir, to(1, "f", f)})
	wantAllButLast(t, "a file is no chunk", rec{file, f}, rec{file, fileText(4, f)})
	wantAll(t, "both", rec{chunk, f}, rec{file, f}, rec{dir, to(1, "f", f)}, rec{file, fileText(4, f)})
	d := to(1, "f", f)
	wantAllButLast(t, "a chunk is no root", rec{file, f}, rec{chunk, d}, rec{snap, snapText(1, d, "")})
	a := wantAll(t, "both", rec{file, f}, rec{chunk, d}, rec{dir, d}, rec{snap, snapText(1, d, "")})
	wantEntries(t, a, 1, "", "f:0")
}

func TestOneObjectTwice(t *testing.T) {
	f := textOfFile("x")
	d := to(1, "f", f)
	records := []rec{{chunk, "x"}, {file, f}, {dir, d}, {chunk, "x"}, {dir, d}, {file, f}, {snap, snapText(1, d, "l")}}
	a := wantAll(t, "records of one object", records...)
	wantFile(t, a, 1, "f", "x")
	p := newPaper(12)
	for _, r := range records {
		p.lay(r)
	}
	e := laid(t, p.sectors)
	a = mounted(t, e)
	for _, at := range []int{4, 5, 6} {
		e.Write(at, full("z"))
	}
	wantError(t, "P12: Verify, damage to what is not meant", a.Verify(), nil)
	wantFile(t, a, 1, "f", "x")
	wantEntries(t, a, 1, "", "f:1")
	for _, at := range []int{3, 2, 1} {
		e.Write(at, full("z"))
		wantFault(t, "P12: Verify", a.Verify(), at)
	}
}

func TestSnapshotsThatAre(t *testing.T) {
	f := textOfFile("x")
	root := to(1, "f", f)
	for n := range 21 {
		label := strings.Repeat("\xff", n)
		a := wantAll(t, "a label of "+strconv.Itoa(n)+" bytes", rec{dir, ""}, rec{snap, snapText(1, "", label)})
		if got, want := a.Snapshots(), []keepsake.Info{{Number: 1, Label: label, Root: sumOf("")}}; !slices.Equal(got, want) {
			t.Errorf("P10: snapshots %v, want %v", got, want)
		}
	}
	a := wantAll(t, "snapshots with objects between", rec{dir, ""}, rec{snap, snapText(1, "", "one")}, rec{chunk, "x"}, rec{file, f}, rec{dir, root},
		rec{snap, snapText(2, root, "two")}, rec{chunk, "y"}, rec{snap, snapText(3, "", "")}, rec{snap, snapText(4, root, "two")}, rec{chunk, "z"})
	want := []keepsake.Info{{1, "one", sumOf("")}, {2, "two", sumOf(root)}, {3, "", sumOf("")}, {4, "two", sumOf(root)}}
	if got := a.Snapshots(); !slices.Equal(got, want) {
		t.Errorf("P10: snapshots %v, want %v", got, want)
	}
	for n, entries := range [][]string{{"f:1"}, nil, {"f:1"}, nil, {"f:1"}} {
		wantEntries(t, a, n, "", entries...)
	}
}

func TestSnapshotRecordsThatAreNone(t *testing.T) {
	root := to(1, "f", textOfFile(""))
	known := []rec{{file, textOfFile("")}, {dir, root}, {snap, snapText(1, root, "")}, {chunk, "x"}}
	with := func(text string) []rec { return append(slices.Clone(known), rec{snap, text}) }
	for what, text := range map[string]string{
		"no text":                       "",
		"no Sum":                        four(2),
		"half a Sum":                    snapText(2, root, "")[:35],
		"a label of 21 bytes":           snapText(2, root, strings.Repeat("l", 21)),
		"a label of 900 bytes":          snapText(2, root, strings.Repeat("l", 900)),
		"number 0":                      snapText(0, root, ""),
		"number 1 again":                snapText(1, root, ""),
		"number 3":                      snapText(3, root, ""),
		"a number whose low byte fits":  snapText(0x102, root, ""),
		"a number whose low bytes fit":  snapText(0x10002, root, ""),
		"a number with high byte last":  "\x02\x00\x00\x00" + sumOf(root),
		"a root that is not there":      snapText(2, "", ""),
		"a root that is a file":         snapText(2, textOfFile(""), ""),
		"a root that is a chunk":        snapText(2, "x", ""),
		"a root told by its text alone": four(2) + root,
	} {
		wantAllButLast(t, "a snapshot: "+what, with(text)...)
	}
	wantAll(t, "a snapshot behind another", with(snapText(2, root, "l"))...)
	wantTaken(t, "a snapshot ahead of its root", []rec{{snap, snapText(1, "", "")}, {dir, ""}}, 0)
	wantAllButLast(t, "a first snapshot with number 0", rec{dir, ""}, rec{snap, snapText(0, "", "")})
	wantAllButLast(t, "a first snapshot with number 2", rec{dir, ""}, rec{snap, snapText(2, "", "")})
}

// deepRecords are directories of which the last has so many names behind one another; it tells that one's text.
func deepRecords(names int, end rec) ([]rec, string) {
	records, text, what := []rec{end}, end.text, end.kind-1
	for range names {
		text, what = to(what, "d", text), 2
		records = append(records, rec{dir, text})
	}
	return records, text
}

func TestSnapshotsThatAreTooDeep(t *testing.T) {
	for names := range 12 {
		for _, end := range []rec{{dir, ""}, {file, textOfFile("")}} {
			if names == 0 && end.kind == file {
				continue
			}
			records, root := deepRecords(names, end)
			what := strconv.Itoa(names) + " names behind one another"
			wantAll(t, what, records...)
			records = append(records, rec{snap, snapText(1, root, "")})
			if names > 8 {
				wantAllButLast(t, what, records...)
				continue
			}
			a := wantAll(t, what, records...)
			path := strings.Repeat("d/", names)
			path = path[:max(0, len(path)-1)]
			if end.kind == dir {
				wantEntries(t, a, 0, path)
				wantEntries(t, a, 1, path)
			} else {
				wantFile(t, a, 0, path, "")
				wantFile(t, a, 1, path, "")
			}
		}
	}
}

// The deepest need not stand last, nor first.
func TestDepthIsThatOfTheDeepest(t *testing.T) {
	records, deep := deepRecords(8, rec{file, textOfFile("")})
	for _, root := range []string{
		to(2, "a", deep), to(2, "a", deep) + to(1, "b", textOfFile("")), to(1, "a", textOfFile("")) + to(2, "b", deep), to(1, "a", textOfFile("")) + to(2, "b", deep) + to(1, "c", textOfFile("")),
	} {
		wantAllButLast(t, "nine names behind one another", append(slices.Clone(records), rec{dir, root}, rec{snap, snapText(1, root, "")})...)
	}
	below := records[7].text // seven names behind one another
	root := to(2, "a", below) + to(1, "b", textOfFile("")) + to(2, "c", below)
	wantAll(t, "eight names behind one another", append(slices.Clone(records), rec{dir, root}, rec{snap, snapText(1, root, "")})...)
}

// wide is a directory's text with so many names, each to the same.
func wide(names int, what byte, text string) string {
	all := ""
	for i := range names {
		all += to(what, letter(i), text)
	}
	return all
}

func TestSnapshotsWithTooManyNames(t *testing.T) {
	f := textOfFile("")
	fifteen, sixteen := wide(15, 1, f), wide(16, 1, f)
	known := []rec{{file, f}, {dir, fifteen}, {dir, sixteen}, {dir, ""}}
	names := func(sizes ...string) string {
		all := ""
		for i, text := range sizes {
			all += to(2, letter(i), text)
		}
		return all
	}
	exact := names(slices.Repeat([]string{fifteen}, 16)...)                               // 16 + 16 * 15
	over := names(append(slices.Repeat([]string{fifteen}, 15), sixteen)...)               // one more
	ahead := names(append([]string{sixteen}, slices.Repeat([]string{fifteen}, 15)...)...) // one more
	half := names(slices.Repeat([]string{sixteen}, 7)...)                                 // 119
	twice := to(2, "a", half) + to(2, "b", half)                                          // 240
	with := func(roots ...string) []rec {
		records := slices.Clone(known)
		for _, root := range roots {
			records = append(records, rec{dir, root})
		}
		return append(records, rec{snap, snapText(1, roots[len(roots)-1], "")})
	}
	wantAll(t, "256 names", with(exact)...)
	wantAllButLast(t, "257 names", with(over)...)
	wantAllButLast(t, "257 names", with(ahead)...)
	wantAll(t, "240 names", with(half, twice)...)
	wantAll(t, "256 names", with(half, twice+to(2, "c", fifteen))...)
	wantAllButLast(t, "257 names, shared ones counted wherever they stand", with(half, twice+to(2, "c", sixteen))...)
	wantAllButLast(t, "257 names below one", with(exact, to(2, "a", exact))...)
}

// 16 names, each to the same 16, and so on: their number is past all bounds, and none may be gone through.
func TestSnapshotsWithEverMoreNames(t *testing.T) {
	text := textOfFile("")
	records := []rec{{file, text}}
	for i := range 40 {
		text = wide(16, byte(min(i, 1)+1), text)
		records = append(records, rec{dir, text})
		if i > 0 {
			wantAllButLast(t, "ever more names", append(slices.Clone(records), rec{snap, snapText(1, text, "")})...)
		}
	}
	wantAll(t, "ever more names, without a snapshot", records...)
}

func TestMountedTreeKnowsItsNames(t *testing.T) {
	f := textOfFile("")
	fifteen := wide(15, 1, f)
	root := wide(16, 2, fifteen)
	a := wantAll(t, "256 names", rec{file, f}, rec{dir, fifteen}, rec{dir, root}, rec{snap, snapText(1, root, "")})
	wantError(t, "P6: Write of the 257th", a.Write("a/z", ""), keepsake.ErrMany)
	remove(t, a, "b/a")
	wantEntries(t, a, 0, "c", "a:0", "b:0", "c:0", "d:0", "e:0", "f:0", "g:0", "h:0", "i:0", "j:0", "k:0", "l:0", "m:0", "n:0", "o:0") // what was shared is apart now
	put(t, a, "a/z", "")
	wantError(t, "P6: Write of the 257th", a.Write("b/a", ""), keepsake.ErrMany)
	wantError(t, "P6: Write of a 17th", a.Write("a/y", ""), keepsake.ErrMany)
	put(t, a, "a/a", "only here")
	wantFile(t, a, 0, "b/b", "")
	wantFile(t, a, 1, "a/a", "")
}

// sample is an archive with records of every kind, of one sector, of two and of more.
func sample() []rec {
	long := strings.Repeat("0123456789", 20)
	var records []rec
	for _, c := range pieces(long) {
		records = append(records, rec{chunk, c})
	}
	f, g := textOfFile(long), textOfFile("")
	root := to(1, "a", f) + to(2, "b", "") + to(1, "c", g)
	return append(records, rec{file, f}, rec{dir, ""}, rec{snap, snapText(1, "", "first")}, rec{file, g}, rec{dir, root}, rec{snap, snapText(2, root, "the second of two")})
}

// Every byte counts: with any other in its place, the record is none.
func TestMountEndsAheadOfDamage(t *testing.T) {
	p := newPaper(needs(sample()) + 2)
	for _, r := range sample() {
		p.lay(r)
	}
	for at := 1; at < p.end; at++ {
		first, _ := slices.BinarySearch(p.first, at+1)
		end := p.first[first-1]
		want := clearedFrom(p.sectors, end)
		for i := range 64 {
			b := []byte(p.sectors[at])
			b[i] ^= byte(1 << (i % 8))
			damaged := slices.Clone(p.sectors)
			damaged[at] = string(b)
			d := laid(t, damaged)
			mounted(t, d)
			wantImage(t, "P9: byte "+strconv.Itoa(i)+" of sector "+strconv.Itoa(at), d, want)
		}
		if t.Failed() {
			return
		}
	}
}

// What is written by hand here has a right CRC, but something else is wrong.
func TestRecordsWithARightCRC(t *testing.T) {
	p := newPaper(8)
	p.lay(rec{chunk, "one"})
	with := func(length int, kind byte, number, ahead uint32, text string) []string {
		begin := string([]byte{byte(length >> 8), byte(length), kind}) + four(number)
		q := &paper{sectors: slices.Clone(p.sectors), end: p.end}
		q.raw(begin + four(crc32.ChecksumIEEE([]byte(four(ahead)+begin+text))) + text)
		return q.sectors
	}
	right := with(3, chunk, 2, p.crc, "two")
	d := laid(t, right)
	mounted(t, d)
	wantImage(t, "P9: a record laid by hand", d, right)
	first := binary.BigEndian.Uint32([]byte(p.sectors[0][12:16]))
	padded := slices.Clone(right)
	padded[2] = padded[2][:63] + "\x01"
	for what, sectors := range map[string][]string{
		"number 0":                                 with(3, chunk, 0, p.crc, "two"),
		"number 1":                                 with(3, chunk, 1, p.crc, "two"),
		"number 3":                                 with(3, chunk, 3, p.crc, "two"),
		"a number whose low byte fits":             with(3, chunk, 0x102, p.crc, "two"),
		"the CRC of sector 0 ahead":                with(3, chunk, 2, first, "two"),
		"no CRC ahead":                             with(3, chunk, 2, 0, "two"),
		"a length that is less":                    with(2, chunk, 2, p.crc, "two"),
		"a length that is more":                    with(4, chunk, 2, p.crc, "two"),
		"a byte that is not 0 behind":              padded,
		"a length that goes beyond the disk":       with(900, chunk, 2, p.crc, "two"),
		"a length that is more than 1,000":         with(1001, chunk, 2, p.crc, "two"),
		"a length with its high byte last":         with(0x300, chunk, 2, p.crc, "two"),
		"a kind that is none":                      with(3, 5, 2, p.crc, "two"),
		"a kind that is 0, and nothing":            with(0, 0, 2, p.crc, ""),
		"a text that is the empty one, of a chunk": with(0, chunk, 2, p.crc, ""),
	} {
		d := laid(t, sectors)
		mounted(t, d)
		wantImage(t, "P9: "+what, d, p.sectors)
	}
}

func TestRecordsUpToTheEndOfTheDisk(t *testing.T) {
	for size := 1; size <= 96; size++ {
		records := slices.Repeat([]rec{{chunk, strings.Repeat("c", size)}}, 3)
		fits := newPaper(1 + needs(records))
		for _, r := range records {
			fits.lay(r)
		}
		d := laid(t, fits.sectors)
		mounted(t, d)
		wantImage(t, "P9: a record that ends with the disk", d, fits.sectors)
		if size <= 53 { // one sector is enough
			continue
		}
		cut := newPaper(needs(records))
		cut.sectors = append(cut.sectors, "beyond the disk")
		for _, r := range records {
			cut.lay(r)
		}
		cut.sectors = cut.sectors[:needs(records)]
		d = laid(t, cut.sectors)
		mounted(t, d)
		wantImage(t, "P9: a record that goes beyond the disk", d, clearedFrom(cut.sectors, cut.first[2]))
	}
}

func TestMountStoppedBehindRecords(t *testing.T) {
	p := newPaper(12)
	p.lay(rec{dir, ""})
	p.lay(rec{snap, snapText(1, "", "kept")})
	safe := slices.Clone(p.sectors)
	safe[4], safe[9] = full("x"), full("y")
	for fuse := 1; fuse <= 4; fuse++ {
		d := laid(t, safe)
		d.Fuse(fuse)
		a, err := keepsake.Mount(d)
		if fuse == 4 {
			wantError(t, "P9: Mount with three operations", err, nil)
			wantImage(t, "P9: Mount", d, p.sectors)
			continue
		}
		wantError(t, "P9: Mount stopped", err, keepsake.ErrDown)
		if a != nil {
			t.Error("P1: an archive beside an error")
		}
		wantWaiting(t, d, fuse-1)
		d.Crash(1)
		if b := mounted(t, d); len(b.Snapshots()) != 1 {
			t.Error("P9: a snapshot is gone")
		}
		wantImage(t, "P9: Mount once more", d, p.sectors)
	}
}
