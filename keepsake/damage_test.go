package keepsake_test

import (
	"errors"
	"math/rand"
	"slices"
	"strconv"
	"strings"
	"testing"

	"keepsake/keepsake"
)

// wantFault tells that an error is ErrCorrupt, at this sector.
func wantFault(t *testing.T, what string, err error, at int) {
	t.Helper()
	var f *keepsake.Fault
	if !errors.Is(err, keepsake.ErrCorrupt) || !errors.As(err, &f) || f.At != at {
		t.Errorf("%s: %v, want damage at %d", what, err, at)
	}
}

// wantListFault tells that List tells damage at this sector, once.
func wantListFault(t *testing.T, a *keepsake.Archive, n int, path string, at int) {
	t.Helper()
	wantListError(t, a, n, path, keepsake.ErrCorrupt)
	for _, err := range a.List(n, path) {
		wantFault(t, "P11: List of "+strconv.Quote(path), err, at)
	}
}

func wantReadFault(t *testing.T, a *keepsake.Archive, n int, path string, at int) {
	t.Helper()
	text, err := a.Read(n, path)
	wantFault(t, "P11: Read of "+strconv.Quote(path), err, at)
	if text != "" {
		t.Errorf("P1: %q beside an error", text)
	}
}

// flip changes a byte of what stands on a disk.
func flip(t *testing.T, d *keepsake.Disk, at, i int) {
	t.Helper()
	text, err := d.Read(at)
	wantError(t, "P4: Read", err, nil)
	b := []byte(text)
	b[i] ^= 0x10
	wantError(t, "P4: Write", d.Write(at, string(b)), nil)
}

// smallKept is an archive with one snapshot: chunk (1), file d/g (2), directory d (3), chunk (4, 5), file f (6), root (7, 8), snapshot (9).
func smallKept(t *testing.T) (*keepsake.Archive, *keepsake.Disk) {
	t.Helper()
	a, d, k := formatted(t, 30)
	m := treeModel{"d": "d", "d/g": "fyy", "f": "f" + strings.Repeat("s", 96)}
	putAll(t, a, m)
	k.wantSnapshot(t, a, d, m, "one")
	if k.end != 10 {
		t.Fatalf("P10: the records end ahead of sector %d", k.end)
	}
	return a, d
}

func TestDamageOfExample10(t *testing.T) {
	a, d := smallKept(t)
	flip(t, d, 5, 3)
	wantReadFault(t, a, 1, "f", 4)
	wantFault(t, "P12: Verify", a.Verify(), 4)
	wantFile(t, a, 1, "d/g", "yy")
	wantEntries(t, a, 1, "", "d/", "f:96")
	wantFile(t, a, 0, "f", strings.Repeat("s", 96))
	b := mounted(t, d)
	wantSector(t, d, 4, full("\x00"))
	if got, _ := d.Read(3); got == full("\x00") || len(b.Snapshots()) != 0 {
		t.Error("P9: Mount does not end ahead of the damage")
	}
	wantEntries(t, b, 0, "")
	wantError(t, "P12: Verify of what was read", b.Verify(), nil)
}

func TestDamageToAFile(t *testing.T) {
	a, d := smallKept(t)
	flip(t, d, 6, 11)
	wantReadFault(t, a, 1, "f", 6)
	wantListFault(t, a, 1, "", 6) // though d stands ahead of it
	wantListError(t, a, 1, "f", keepsake.ErrKind)
	wantReadError(t, a, 1, "f/x", keepsake.ErrKind)
	wantReadError(t, a, 1, "g", keepsake.ErrNone)
	wantFile(t, a, 1, "d/g", "yy")
	wantEntries(t, a, 1, "d", "g:2")
	wantFault(t, "P12: Verify", a.Verify(), 6)
	flip(t, d, 6, 11)
	wantError(t, "P12: Verify, the damage mended", a.Verify(), nil)
	wantFile(t, a, 1, "f", strings.Repeat("s", 96))
}

func TestDamageToADirectory(t *testing.T) {
	a, d := smallKept(t)
	flip(t, d, 3, 45) // the last byte of its text
	wantReadFault(t, a, 1, "d/g", 3)
	wantReadFault(t, a, 1, "d/none", 3)
	wantReadFault(t, a, 1, "d/g/none", 3)
	wantListFault(t, a, 1, "d", 3)
	wantListFault(t, a, 1, "d/g", 3)
	wantReadError(t, a, 1, "d", keepsake.ErrKind)
	wantEntries(t, a, 1, "", "d/", "f:96")
	wantFault(t, "P12: Verify", a.Verify(), 3)
	wantFile(t, a, 1, "f", strings.Repeat("s", 96))
}

func TestDamageToTheRoot(t *testing.T) {
	a, d := smallKept(t)
	flip(t, d, 8, 0)
	wantReadFault(t, a, 1, "f", 7)
	wantReadFault(t, a, 1, "none", 7)
	wantListFault(t, a, 1, "", 7)
	wantListFault(t, a, 1, "d", 7)
	wantReadError(t, a, 1, "", keepsake.ErrKind)
	wantReadError(t, a, 1, "F", keepsake.ErrPath)
	wantReadError(t, a, 2, "f", keepsake.ErrNone)
	wantReadError(t, a, -1, "f", keepsake.ErrNone)
	wantListError(t, a, 2, "", keepsake.ErrNone)
	wantListError(t, a, 1, "F", keepsake.ErrPath)
	wantFault(t, "P12: Verify", a.Verify(), 7)
}

// The first on the way is told, not the first on the disk; Verify tells the first on the disk.
func TestTheFirstDamageIsTold(t *testing.T) {
	a, d := smallKept(t)
	for _, at := range []int{1, 2, 3} {
		d.Write(at, full("z"))
	}
	wantReadFault(t, a, 1, "d/g", 3)
	wantFault(t, "P12: Verify", a.Verify(), 1)
	d.Write(7, full("z"))
	wantReadFault(t, a, 1, "d/g", 7)
	wantFault(t, "P12: Verify", a.Verify(), 1)
}

func TestDamageToOneOfManyChunks(t *testing.T) {
	text := ""
	for i := range 16 {
		text += strings.Repeat(letter(i), 96)
	}
	for i := range 16 {
		for j := i; j < 16; j++ {
			a, d, k := formatted(t, 60)
			m := treeModel{"f": "f" + text}
			putAll(t, a, m)
			k.wantSnapshot(t, a, d, m, "")
			flip(t, d, 1+2*j+1, 7)
			flip(t, d, 1+2*i, 63)
			wantReadFault(t, a, 1, "f", 1+2*i)
			wantFault(t, "P12: Verify", a.Verify(), 1+2*i)
			wantEntries(t, a, 1, "", "f:1536")
		}
	}
}

// What is not an object's text may be anything, as long as the archive is mounted.
func TestDamageThatIsNone(t *testing.T) {
	a, d := smallKept(t)
	for at := range 30 {
		switch at {
		case 5, 8: // a record's second sector
			flip(t, d, at, 63)
		case 0, 9: // sector 0, the snapshot's record
			d.Write(at, full("z"))
		default:
			for i := range 11 {
				flip(t, d, at, i)
			}
		}
	}
	flip(t, d, 1, 13)
	flip(t, d, 3, 46)
	wantError(t, "P12: Verify", a.Verify(), nil)
	wantFile(t, a, 1, "f", strings.Repeat("s", 96))
	wantFile(t, a, 1, "d/g", "yy")
	wantEntries(t, a, 1, "", "d/", "f:96")
	if len(a.Snapshots()) != 1 {
		t.Error("P10: a snapshot is gone")
	}
}

// Objects that no snapshot has are verified too, if they were read.
func TestVerifyOfWhatWasRead(t *testing.T) {
	p := newPaper(8)
	p.lay(rec{chunk, "left"})
	p.lay(rec{file, textOfFile("left")})
	p.lay(rec{dir, to(1, "f", textOfFile("left"))})
	for at := 1; at < p.end; at++ {
		d := laid(t, p.sectors)
		a := mounted(t, d)
		wantError(t, "P12: Verify", a.Verify(), nil)
		flip(t, d, at, 12)
		wantFault(t, "P12: Verify", a.Verify(), at)
		flip(t, d, at, 12)
		wantError(t, "P12: Verify", a.Verify(), nil)
	}
}

func TestVerifyAndReadAreNoOperations(t *testing.T) {
	a, d := smallKept(t)
	d.Fuse(1)
	wantError(t, "P12: Verify", a.Verify(), nil)
	wantFile(t, a, 1, "d/g", "yy")
	wantEntries(t, a, 1, "d", "g:2")
	wantError(t, "P4: the fuse", d.Flush(), keepsake.ErrDown)
	wantError(t, "P12: Verify of a disk that is down", a.Verify(), nil)
	wantFile(t, a, 1, "d/g", "yy")
	wantEntries(t, a, 1, "", "d/", "f:96")
}

func TestArchiveWhoseDiskIsFormatted(t *testing.T) {
	a, d := smallKept(t)
	wantError(t, "P8: Format", keepsake.Format(d), nil)
	wantFault(t, "P12: Verify", a.Verify(), 1)
	wantReadFault(t, a, 1, "f", 7)
	wantListFault(t, a, 1, "", 7)
	wantEntries(t, a, 0, "", "d/", "f:96")
	if len(a.Snapshots()) != 1 {
		t.Error("P10: a snapshot is gone")
	}
}

// way tells what Read (or List) of a path in a snapshot needs, in order, and why it is refused if nothing is damaged.
func (k *keeper) way(m treeModel, path string, list bool) ([]rec, error) {
	dirRec := func(path string) rec {
		text, _ := m.dirText(path)
		return rec{dir, text}
	}
	need := []rec{}
	at := ""
	for _, name := range strings.Split(path, "/") {
		if path == "" {
			break
		}
		if at != "" && m[at] != "d" {
			return need, keepsake.ErrKind
		}
		need = append(need, dirRec(at))
		at = in(at, name)
		if m[at] == "" {
			return need, keepsake.ErrNone
		}
	}
	isDir := path == "" || m[path] == "d"
	switch {
	case isDir != list:
		return need, keepsake.ErrKind
	case isDir:
		need = append(need, dirRec(path))
		for _, name := range m.in(path) {
			if what := m[in(path, name)]; what != "d" {
				need = append(need, rec{file, textOfFile(what[1:])})
			}
		}
	default:
		need = append(need, rec{file, textOfFile(m[path][1:])})
		for _, c := range pieces(m[path][1:]) {
			need = append(need, rec{chunk, c})
		}
	}
	return need, nil
}

// damaged tells whether an object's text stands on a disk no more.
func (k *keeper) damaged(sectors []string, r rec) bool {
	at := k.known[r]
	whole := strings.Join(sectors[at:min(at+20, len(sectors))], "")
	return whole[11:11+len(r.text)] != r.text
}

// wantWay tells that Read and List of a path in a snapshot meet the first damage on their way.
func (k *keeper) wantWay(t *testing.T, a *keepsake.Archive, sectors []string, n int, path string) {
	t.Helper()
	for _, list := range []bool{false, true} {
		need, err := k.way(k.models[n-1], path, list)
		i := slices.IndexFunc(need, func(r rec) bool { return k.damaged(sectors, r) })
		switch {
		case i >= 0 && list:
			wantListFault(t, a, n, path, k.known[need[i]])
		case i >= 0:
			wantReadFault(t, a, n, path, k.known[need[i]])
		case err != nil && list:
			wantListError(t, a, n, path, err)
		case err != nil:
			wantReadError(t, a, n, path, err)
		case !list:
			wantFile(t, a, n, path, k.models[n-1][path][1:])
		default:
			if _, err := listed(a, n, path); err != nil {
				t.Errorf("P11: List(%d, %q): %v", n, path, err)
			}
		}
	}
}

func TestDamageAgainstModel(t *testing.T) {
	for seed := range int64(25) {
		r := rand.New(rand.NewSource(seed))
		a, d, k := formatted(t, 300)
		m := treeModel{}
		for range 6 {
			for range 12 {
				change(t, r, a, m)
			}
			k.wantSnapshot(t, a, d, m, "")
		}
		if r.Intn(2) == 0 {
			a = mounted(t, d)
		}
		for range 6 {
			if at := 1 + r.Intn(k.end-1); r.Intn(3) == 0 {
				d.Write(at, full("z"))
			} else {
				flip(t, d, at, r.Intn(64))
			}
			sectors := image(t, d)
			first := -1
			for r, at := range k.known {
				if k.damaged(sectors, r) && (first < 0 || at < first) {
					first = at
				}
			}
			if first < 0 {
				wantError(t, "P12: Verify", a.Verify(), nil)
			} else {
				wantFault(t, "P12: Verify", a.Verify(), first)
			}
			for n, kept := range k.models {
				k.wantWay(t, a, sectors, n+1, "")
				for path := range kept {
					k.wantWay(t, a, sectors, n+1, path)
				}
				for range 10 {
					if path := somePath(r, 5); modelPath.MatchString(path) {
						k.wantWay(t, a, sectors, n+1, path)
					}
				}
			}
			if t.Failed() {
				t.Fatalf("seed %d", seed)
			}
		}
	}
}
