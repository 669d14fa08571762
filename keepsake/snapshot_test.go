package keepsake_test

import (
	"maps"
	"math/rand"
	"slices"
	"strconv"
	"strings"
	"testing"
	"unsafe"

	"keepsake/keepsake"
	"keepsake/plain"
)

// keeper is P10 told over again in the simplest way: what stands on a disk behind snapshots of models.
type keeper struct {
	*paper
	known  map[rec]int // an object's first sector
	models []treeModel // of the snapshots
	infos  []keepsake.Info
}

func newKeeper(sectors int) *keeper {
	return &keeper{paper: newPaper(sectors), known: map[rec]int{}}
}

// in tells the path of a name in a directory.
func in(dir, name string) string { return strings.TrimPrefix(dir+"/"+name, "/") }

// dirText tells a directory's text, and the objects below it and itself, in order.
func (m treeModel) dirText(path string) (string, []rec) {
	text := ""
	var all []rec
	for _, name := range m.in(path) {
		what := m[in(path, name)]
		if what == "d" {
			below, objects := m.dirText(in(path, name))
			all = append(all, objects...)
			text += to(2, name, below)
			continue
		}
		for _, c := range pieces(what[1:]) {
			all = append(all, rec{chunk, c})
		}
		all = append(all, rec{file, textOfFile(what[1:])})
		text += to(1, name, textOfFile(what[1:]))
	}
	return text, append(all, rec{dir, text})
}

// snapshot lays down what Snapshot does.
func (k *keeper) snapshot(m treeModel, label string) (int, error) {
	if len(label) > 20 {
		return 0, keepsake.ErrBig
	}
	root, objects := m.dirText("")
	var fresh []rec
	for _, r := range objects {
		if _, ok := k.known[r]; !ok && !slices.Contains(fresh, r) {
			fresh = append(fresh, r)
		}
	}
	number := len(k.infos) + 1
	last := rec{snap, snapText(uint32(number), root, label)}
	if needs(append(fresh, last)) > len(k.sectors)-k.end {
		return 0, keepsake.ErrFull
	}
	for _, r := range fresh {
		k.known[r] = k.end
		k.lay(r)
	}
	k.lay(last)
	k.models = append(k.models, maps.Clone(m))
	k.infos = append(k.infos, keepsake.Info{Number: number, Label: label, Root: sumOf(root)})
	return number, nil
}

// wantSnapshot does a snapshot on both, and tells that the answers and the disks are the same.
func (k *keeper) wantSnapshot(t *testing.T, a *keepsake.Archive, d *keepsake.Disk, m treeModel, label string) {
	t.Helper()
	want, wantErr := k.snapshot(m, label)
	got, err := a.Snapshot(label)
	wantError(t, "P10: Snapshot", err, wantErr)
	if got != want {
		t.Errorf("P10: Snapshot: %d, want %d", got, want)
	}
	wantWaiting(t, d, 0)
	wantImage(t, "P10: Snapshot", d, k.sectors)
	k.wantInfos(t, a)
}

func (k *keeper) wantInfos(t *testing.T, a *keepsake.Archive) {
	t.Helper()
	if got := a.Snapshots(); !slices.Equal(got, k.infos) {
		t.Errorf("P10: Snapshots: %v, want %v", got, k.infos)
	}
}

// formatted is an archive on a new disk, and what that disk should hold.
func formatted(t *testing.T, sectors int) (*keepsake.Archive, *keepsake.Disk, *keeper) {
	t.Helper()
	d := keepsake.NewDisk(sectors)
	wantError(t, "P8: Format", keepsake.Format(d), nil)
	return mounted(t, d), d, newKeeper(sectors)
}

// putAll puts all of a model into a tree, the directories first.
func putAll(t *testing.T, a *keepsake.Archive, m treeModel) {
	t.Helper()
	for _, path := range slices.Sorted(maps.Keys(m)) { // a directory's path stands ahead of those in it
		if m[path] == "d" {
			mkdir(t, a, path)
		} else {
			put(t, a, path, m[path][1:])
		}
	}
}

func TestSnapshotOfExample6(t *testing.T) {
	a, d, k := formatted(t, 8)
	k.wantSnapshot(t, a, d, treeModel{}, "x")
	if k.end != 3 {
		t.Fatalf("P10: the records end ahead of sector %d", k.end)
	}
	k.wantSnapshot(t, a, d, treeModel{}, "x")
	if k.end != 4 {
		t.Fatalf("P10: the records end ahead of sector %d", k.end)
	}
}

func TestSnapshotOfExample7(t *testing.T) {
	a, d, k := formatted(t, 30)
	same := strings.Repeat("s", 96)
	m := treeModel{"a": "f" + same, "b": "f" + same + "!"}
	putAll(t, a, m)
	k.wantSnapshot(t, a, d, m, "")
	chunks := 0
	for r := range k.known {
		if r.kind == chunk {
			chunks++
		}
	}
	if chunks != 2 || k.known[rec{chunk, "!"}] == 0 {
		t.Errorf("P10: %d chunks", chunks)
	}
	wantFile(t, a, 1, "b", same+"!")
}

func TestSnapshotOfExample8(t *testing.T) {
	a, d, k := formatted(t, 4)
	put(t, a, "f", "x")
	k.wantSnapshot(t, a, d, treeModel{"f": "fx"}, "a")
	if len(k.infos) != 0 {
		t.Fatal("P10: a snapshot for which there is no room")
	}
	remove(t, a, "f")
	k.wantSnapshot(t, a, d, treeModel{}, "a")
	k.wantSnapshot(t, a, d, treeModel{}, "b")
	k.wantSnapshot(t, a, d, treeModel{}, "c")
	if len(k.infos) != 2 {
		t.Errorf("P10: %d snapshots", len(k.infos))
	}
}

// The order of what is written: below a directory first, by names, not as it was put.
func TestSnapshotsOrder(t *testing.T) {
	a, d, k := formatted(t, 200)
	long := strings.Repeat("0123456789", 30)
	m := treeModel{"z": "fend", "d": "d", "d/y": "f" + long, "d/b": "d", "d/b/x": "f", "a": "f" + long[:96], "a.": "d", "c": "f" + long[96:], "d-": "fx", "d0": "d"}
	putAll(t, a, m)
	k.wantSnapshot(t, a, d, m, "all")
	put(t, a, "d/b/x", "now longer")
	m["d/b/x"] = "fnow longer"
	k.wantSnapshot(t, a, d, m, "one changed")
	remove(t, a, "d/b/x")
	delete(m, "d/b/x")
	k.wantSnapshot(t, a, d, m, "one gone")
	wantModel(t, a, 3, m)
}

// What a snapshot has is known by its kind too: a chunk with a file's text is written beside it.
func TestSnapshotOfOneSumOfTwoKinds(t *testing.T) {
	a, d, k := formatted(t, 100)
	inner := textOfFile("x")
	root := to(1, "a", inner)
	m := treeModel{"a": "fx", "b": "f" + inner, "c": "f" + textOfFile(inner), "d": "d", "d/a": "fx", "e": "f" + root}
	putAll(t, a, m)
	k.wantSnapshot(t, a, d, m, "")
	wantModel(t, a, 1, m)
	wantModel(t, mounted(t, d), 1, m)
}

func TestLabels(t *testing.T) {
	for n := range 30 {
		a, d, k := formatted(t, 12)
		k.wantSnapshot(t, a, d, treeModel{}, strings.Repeat("\x00\xff", n)[:n])
	}
	a, d, k := formatted(t, 4)
	k.wantSnapshot(t, a, d, treeModel{}, strings.Repeat("l", 20)) // its record needs two sectors: with the root's, all three
	k.wantSnapshot(t, a, d, treeModel{}, "")
	k.wantSnapshot(t, a, d, treeModel{}, strings.Repeat("l", 21))
	k.wantSnapshot(t, a, d, treeModel{}, strings.Repeat("l", 1<<20))
	if k.end != 4 {
		t.Errorf("P10: the records end ahead of sector %d", k.end)
	}
	_, err := a.Snapshot(strings.Repeat("l", 21))
	wantError(t, "P10: a label that is too long, where no room is", err, keepsake.ErrBig)
}

// The last sector may be used, and no more: every size around what is needed.
func TestSnapshotOfEverySize(t *testing.T) {
	m := treeModel{"a": "f" + strings.Repeat("0123456789", 100), "d": "d", "d/b": "f" + strings.Repeat("x", 54)}
	_, objects := m.dirText("")
	need := 1 + needs(objects)
	for sectors := need - 3; sectors <= need+5; sectors++ {
		for _, label := range []string{"", strings.Repeat("l", 17), strings.Repeat("l", 18)} {
			a, d, k := formatted(t, sectors)
			putAll(t, a, m)
			k.wantSnapshot(t, a, d, m, label)
			wantModel(t, a, 0, m)
			wantError(t, "P12: Verify", a.Verify(), nil)
			b := mounted(t, d)
			k.wantInfos(t, b)
			wantImage(t, "P9: Mount", d, k.sectors)
			for n, kept := range k.models {
				wantModel(t, b, n+1, kept)
			}
			k.wantSnapshot(t, a, d, m, label)
		}
	}
}

// The greatest tree: 256 names, the longest ones, the biggest files.
func TestSnapshotOfTheGreatestTree(t *testing.T) {
	a, d, k := formatted(t, 4096)
	m := treeModel{}
	for i := range 256 {
		path := strings.Repeat(letter(i%16), 16)
		if i >= 16 {
			path = strings.Repeat(letter(i/16-1), 16) + "/" + path
		}
		m[path] = "d"
		if i >= 16 && i < 100 {
			m[path] = "f" + strings.Repeat(strconv.Itoa(1000+i)+" ", 400)[:1536]
		}
	}
	putAll(t, a, m)
	k.wantSnapshot(t, a, d, m, "all of it")
	wantModel(t, a, 1, m)
	b := mounted(t, d)
	wantModel(t, b, 0, m)
	wantError(t, "P6: Write of the 257th", b.Write(strings.Repeat("p", 16)+"/a", ""), keepsake.ErrMany)
	k.wantSnapshot(t, b, d, m, "once more")
}

// Deepest tree: eight names behind one another.
func TestSnapshotOfTheDeepestTree(t *testing.T) {
	a, d, k := formatted(t, 40)
	m := treeModel{}
	path := "d"
	for range 7 {
		m[path] = "d"
		path += "/d"
	}
	m[path] = "fdeep"
	putAll(t, a, m)
	k.wantSnapshot(t, a, d, m, "")
	b := mounted(t, d)
	wantModel(t, b, 0, m)
	wantModel(t, b, 1, m)
}

// Objects without a snapshot behind them are read, and are not written again.
func TestSnapshotUsesWhatWasRead(t *testing.T) {
	p := newPaper(20)
	p.lay(rec{chunk, "left"})
	p.lay(rec{file, textOfFile("left")})
	p.lay(rec{dir, ""})
	d := laid(t, p.sectors)
	a := mounted(t, d)
	put(t, a, "f", "left")
	if n, err := a.Snapshot("new"); n != 1 || err != nil {
		t.Fatalf("P10: Snapshot: %d %v", n, err)
	}
	root := to(1, "f", textOfFile("left"))
	p.lay(rec{dir, root})
	p.lay(rec{snap, snapText(1, root, "new")})
	wantImage(t, "P10: Snapshot behind what was read", d, p.sectors)
}

// An object that is damaged counts as one that was written.
func TestSnapshotBehindDamage(t *testing.T) {
	a, d, k := formatted(t, 20)
	m := treeModel{"f": "fx"}
	putAll(t, a, m)
	k.wantSnapshot(t, a, d, m, "one")
	k.sectors[1] = full("z")
	d.Write(1, full("z"))
	wantError(t, "P4: Flush", d.Flush(), nil)
	k.wantSnapshot(t, a, d, m, "two")
	wantFile(t, a, 0, "f", "x")
}

func TestSnapshotThatHasNoRoomChangesNothing(t *testing.T) {
	a, d, k := formatted(t, 8)
	put(t, a, "f", strings.Repeat("0123456789", 60))
	d.Fuse(1)
	n, err := a.Snapshot("full")
	wantError(t, "P10: Snapshot without room, of which the first operation would fail", err, keepsake.ErrFull)
	if n != 0 {
		t.Errorf("P1: %d beside an error", n)
	}
	wantError(t, "P10: a Snapshot without room is no operation", d.Flush(), keepsake.ErrDown)
	_, err = a.Snapshot("full")
	wantError(t, "P10: Snapshot without room, of a disk that is down", err, keepsake.ErrFull)
	d.Crash()
	wantImage(t, "P10: Snapshot without room", d, k.sectors)
	wantFile(t, a, 0, "f", strings.Repeat("0123456789", 60))
	wantError(t, "P12: Verify", a.Verify(), nil)
	put(t, a, "f", "0")
	k.wantSnapshot(t, a, d, treeModel{"f": "f0"}, "short")
}

func TestSnapshotsAreTheCallers(t *testing.T) {
	a, _, k := formatted(t, 20)
	label := []byte("label")
	wantError(t, "P10: Snapshot", second(a.Snapshot(unsafe.String(&label[0], 5))), nil)
	label[0] = 'x'
	k.snapshot(treeModel{}, "label")
	k.wantInfos(t, a)
	list := a.Snapshots()
	list[0] = keepsake.Info{}
	other := append(a.Snapshots(), keepsake.Info{Number: 7})
	wantError(t, "P10: Snapshot", second(a.Snapshot("b")), nil)
	k.snapshot(treeModel{}, "b")
	k.wantInfos(t, a)
	if other[1].Number != 7 {
		t.Error("P2: a list that was handed out is written to")
	}
}

func second(_ int, err error) error { return err }

func TestKeptIsApartFromTheTree(t *testing.T) {
	a, d, k := formatted(t, 60)
	first := treeModel{"f": "fone", "d": "d", "d/g": "ftwo"}
	putAll(t, a, first)
	k.wantSnapshot(t, a, d, first, "first")
	put(t, a, "f", "other")
	remove(t, a, "d/g")
	remove(t, a, "d")
	put(t, a, "d", "a file now")
	wantModel(t, a, 1, first)
	now := treeModel{"f": "fother", "d": "fa file now"}
	k.wantSnapshot(t, a, d, now, "now")
	b := mounted(t, d)
	put(t, b, "g", "only in the tree")
	for _, archive := range []*keepsake.Archive{a, b} {
		wantModel(t, archive, 1, first)
		wantModel(t, archive, 2, now)
		wantReadError(t, archive, 1, "g", keepsake.ErrNone)
	}
	wantModel(t, mounted(t, d), 0, now)
}

func TestSnapshotWhileListIsGoneThrough(t *testing.T) {
	a, d, k := formatted(t, 40)
	m := treeModel{"a": "fx", "b": "fy"}
	putAll(t, a, m)
	k.wantSnapshot(t, a, d, m, "")
	told := ""
	for e, err := range a.List(1, "") {
		wantError(t, "P11: List", err, nil)
		told += e.Name
		k.wantSnapshot(t, a, d, m, e.Name)
		wantError(t, "P8: Format", keepsake.Format(d), nil)
		for at, text := range k.sectors {
			d.Write(at, text)
		}
		d.Flush()
	}
	if told != "ab" {
		t.Errorf("P11: told %q", told)
	}
}

func TestKeptAskedFromOutside(t *testing.T) {
	a, d, _ := formatted(t, 30)
	plain.Put(a, "f", "text")
	n, why := plain.Snapshot(a, "label")
	big, tooBig := plain.Snapshot(a, strings.Repeat("l", 21))
	if got := []int{n, why, big, tooBig}; !slices.Equal(got, []int{1, 0, 0, 11}) {
		t.Errorf("P10: %v", got)
	}
	if text, n, at := plain.Get(a, 1, "f"); text != "text" || n != 0 || at != -1 {
		t.Errorf("P11: Read: %q %d %d", text, n, at)
	}
	plain.Write(d, 2, full("z"))
	if text, n, at := plain.Get(a, 1, "f"); text != "" || n != 4 || at != 2 {
		t.Errorf("P11: Read: %q %d %d", text, n, at)
	}
	if list, n, at, more := plain.List(a, 1, "", 0); len(list) != 0 || n != 4 || at != 2 || more {
		t.Errorf("P11: List: %v %d %d %v", list, n, at, more)
	}
	if n, at := plain.Verify(a); n != 4 || at != 2 {
		t.Errorf("P12: Verify: %d %d", n, at)
	}
}

// change does one thing to the tree and to the model.
func change(t *testing.T, r *rand.Rand, a *keepsake.Archive, m treeModel) {
	t.Helper()
	path := somePath(r, 4)
	quoted := strconv.Quote(path)
	switch k := r.Intn(20); {
	case k < 9:
		data := strings.Repeat(letter(r.Intn(3)), []int{0, 1, 95, 96, 97, 192, 300, 1536}[r.Intn(8)])
		wantError(t, "P6: Write("+quoted+")", a.Write(path, data), m.put(path, "f"+data))
	case k < 15:
		wantError(t, "P6: Mkdir("+quoted+")", a.Mkdir(path), m.put(path, "d"))
	default:
		wantError(t, "P6: Remove("+quoted+")", a.Remove(path), m.remove(path))
	}
}

func TestSnapshotsAgainstModel(t *testing.T) {
	for seed := range int64(40) {
		r := rand.New(rand.NewSource(seed))
		a, d, k := formatted(t, 4+r.Intn(400))
		m := treeModel{}
		for range 40 {
			for range r.Intn(12) {
				change(t, r, a, m)
			}
			k.wantSnapshot(t, a, d, m, strings.Repeat(letter(r.Intn(30)), r.Intn(22)))
			wantError(t, "P12: Verify", a.Verify(), nil)
			if r.Intn(4) == 0 { // what was not kept is gone
				a, m = mounted(t, d), treeModel{}
				if n := len(k.models); n > 0 {
					m = maps.Clone(k.models[n-1])
				}
				k.wantInfos(t, a)
				wantImage(t, "P9: Mount", d, k.sectors)
				wantModel(t, a, 0, m)
			}
			if t.Failed() {
				t.Fatalf("seed %d", seed)
			}
		}
		for n, kept := range k.models {
			wantModel(t, a, n+1, kept)
		}
	}
}
