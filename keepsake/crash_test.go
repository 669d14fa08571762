package keepsake_test

import (
	"maps"
	"math/rand"
	"slices"
	"strings"
	"testing"

	"keepsake/keepsake"
	"keepsake/plain"
)

// choices calls try with each choice of so many places, in any order.
func choices(places int, try func(keep []int)) {
	var more func(keep []int)
	more = func(keep []int) {
		try(keep)
		for place := range places {
			if !slices.Contains(keep, place) {
				more(append(slices.Clone(keep), place))
			}
		}
	}
	more(nil)
}

// twin is a disk, and the model to which all that is done to it is done as well.
type twin struct {
	*keepsake.Disk
	model *model
}

func newTwin(t *testing.T, safe []string) twin {
	t.Helper()
	return twin{laid(t, safe), &model{safe: slices.Clone(safe), up: true}}
}

func (w twin) write(t *testing.T, at int, data string) {
	t.Helper()
	wantError(t, "P4: Write", w.Write(at, data), w.model.write(at, data))
}

func (w twin) fuse(n int) {
	w.Fuse(n)
	w.model.left, w.model.lit = n, n > 0
}

func (w twin) crash(keep []int) {
	w.Crash(keep...)
	w.model.crash(keep)
}

// wantSame tells that the disk is as the model is.
func (w twin) wantSame(t *testing.T, what string) {
	t.Helper()
	wantWaiting(t, w.Disk, len(w.model.at))
	var seen []string
	for at := range w.model.safe {
		seen = append(seen, w.model.seen(at))
	}
	wantImage(t, what, w.Disk, seen)
}

// lay, wipe and format are what P8 to P10 ask of a disk, told over again.
func (m *model) lay(at int, sectors []string) error {
	for i, data := range sectors {
		if err := m.write(at+i, data); err != nil {
			return err
		}
	}
	return m.flush()
}

func (m *model) wipe(from int) error {
	for at := from; at < len(m.safe); at++ {
		if m.seen(at) == full("\x00") {
			continue
		}
		if err := m.write(at, full("\x00")); err != nil {
			return err
		}
	}
	return m.flush()
}

func (m *model) format() error {
	if err := m.wipe(0); err != nil {
		return err
	}
	return m.lay(0, []string{head(len(m.safe))})
}

// snapshot lays on a disk what a keeper has ahead of and with its last snapshot, from a sector on.
func (m *model) snapshot(from int, k *keeper) error {
	last := k.first[len(k.first)-1]
	if last > from {
		if err := m.lay(from, k.sectors[from:last]); err != nil {
			return err
		}
	}
	return m.lay(last, k.sectors[last:k.end])
}

// whole is how many of the records, from the first on, stand wholly in sectors.
func (p *paper) whole(sectors []string) int {
	for n := range p.records {
		if end := append(p.first, p.end)[n+1]; !slices.Equal(sectors[p.first[n]:end], p.sectors[p.first[n]:end]) {
			return n
		}
	}
	return len(p.records)
}

// upTo is what is kept where the first so many records are all that is read.
func (k *keeper) upTo(records int) *keeper {
	c := newKeeper(len(k.sectors))
	for _, r := range k.records[:records] {
		if n := len(c.infos); r.kind == snap {
			c.models, c.infos = append(c.models, k.models[n]), append(c.infos, k.infos[n])
		} else if _, ok := c.known[r]; !ok {
			c.known[r] = c.end
		}
		c.lay(r)
	}
	return c
}

// tree is what a Mount takes for its tree.
func (k *keeper) tree() treeModel {
	if len(k.models) == 0 {
		return treeModel{}
	}
	return maps.Clone(k.models[len(k.models)-1])
}

// wantKept tells that an archive has these snapshots, and each what it had.
func (k *keeper) wantKept(t *testing.T, a *keepsake.Archive) {
	t.Helper()
	k.wantInfos(t, a)
	for n, m := range k.models {
		wantModel(t, a, n+1, m)
	}
	wantReadError(t, a, len(k.models)+1, "a", keepsake.ErrNone)
	wantError(t, "P12: Verify", a.Verify(), nil)
}

// wantMounted mounts a disk behind a crash: what stands there of all that a keeper has is found, and nothing else is left.
func (k *keeper) wantMounted(t *testing.T, w twin) (*keepsake.Archive, *keeper) {
	t.Helper()
	found := k.upTo(k.whole(w.model.safe))
	a := mounted(t, w.Disk)
	wantError(t, "P9: the model", w.model.wipe(found.end), nil)
	w.wantSame(t, "P9: Mount behind a crash")
	wantImage(t, "P9: Mount leaves the records that it read", w.Disk, found.sectors)
	found.wantKept(t, a)
	wantModel(t, a, 0, found.tree())
	return a, found
}

// eachCrash lets do go down at each of its operations, and the disk crash then with each choice of the writes that wait; start makes the disk anew, do is to do the same to the disk and to its model, then looks at what is left.
func eachCrash(t *testing.T, start func() twin, do func(twin) error, then func(twin)) {
	t.Helper()
	for fuse := 1; ; fuse++ {
		w := start()
		w.fuse(fuse)
		err := do(w)
		w.wantSame(t, "P8 to P10: what was done is done")
		if err == nil {
			w.crash(nil)
			w.wantSame(t, "P8 to P10: all that was done is safe")
			then(w)
			endIfFailed(t, fuse, nil)
			return
		}
		choices(w.Waiting(), func(keep []int) {
			w := start()
			w.fuse(fuse)
			wantError(t, "P8 to P10: stopped once more", do(w), keepsake.ErrDown)
			w.crash(keep)
			w.wantSame(t, "P4: Crash")
			then(w)
			endIfFailed(t, fuse, keep)
		})
	}
}

// endIfFailed ends a test that has failed, and tells where.
func endIfFailed(t *testing.T, fuse int, keep []int) {
	t.Helper()
	if t.Failed() {
		t.Fatalf("fuse %d, kept %v", fuse, keep)
	}
}

// bothFormat formats a disk and its model.
func bothFormat(t *testing.T, w twin) error {
	t.Helper()
	want := w.model.format()
	wantError(t, "P8: Format", keepsake.Format(w.Disk), want)
	return want
}

// A Format that was stopped may be done again; up to then an archive is there where sector 0 says so.
func TestFormatThroughCrashes(t *testing.T) {
	_, safe := usedDisk(t)
	start := func() twin {
		w := newTwin(t, safe)
		w.write(t, 3, full("w"))
		return w
	}
	eachCrash(t, start, func(w twin) error { return bothFormat(t, w) }, func(w twin) {
		want := error(keepsake.ErrFormat)
		if w.model.safe[0] == head(5) {
			want = nil
			wantImage(t, "P8: sector 0 is written behind all else", w.Disk, blankButHead(5))
		}
		_, err := keepsake.Mount(w.Disk)
		wantError(t, "P9: Mount behind a Format that was stopped", err, want)
		wantError(t, "P8: Format once more", keepsake.Format(w.Disk), nil)
		wantImage(t, "P8: Format once more", w.Disk, blankButHead(5))
	})
}

// Where an old archive's sector 0 is left, a Format that was stopped leaves its records up to the first that is cleared.
func TestFormatOfAnArchiveThroughCrashes(t *testing.T) {
	k := newKeeper(6)
	k.snapshot(treeModel{}, "a")
	k.snapshot(treeModel{}, "b")
	start := func() twin { return newTwin(t, k.sectors) }
	found := map[int]int{}
	eachCrash(t, start, func(w twin) error { return bothFormat(t, w) }, func(w twin) {
		if w.model.safe[0] != head(6) {
			_, err := keepsake.Mount(w.Disk)
			wantError(t, "P9: Mount behind a Format that was stopped", err, keepsake.ErrFormat)
			return
		}
		_, left := k.wantMounted(t, w)
		found[len(left.infos)]++
	})
	if found[0] == 0 || found[1] == 0 || found[2] == 0 {
		t.Errorf("P8: snapshots that are left: %v", found)
	}
}

// bothMount mounts a disk, and does to its model what Mount is to do where the records end there.
func bothMount(t *testing.T, w twin, end int) (*keepsake.Archive, error) {
	t.Helper()
	want := w.model.wipe(end)
	a, err := keepsake.Mount(w.Disk)
	wantError(t, "P9: Mount", err, want)
	if (a != nil) != (want == nil) {
		t.Errorf("P1: an archive %v beside %v", a, err)
	}
	return a, want
}

// What Mount clears may be lost in any part: it is cleared once more, and the records stay.
func TestMountThroughCrashes(t *testing.T) {
	k := newKeeper(14)
	k.snapshot(treeModel{"f": "f"}, "one")
	k.lay(rec{chunk, "left"}) // no snapshot has it
	torn := slices.Clone(k.sectors)
	torn[k.end+1], torn[k.end+3], torn[13] = full("x"), full("\x00")[1:]+"y", "z"+full("\x00")[1:]
	start := func() twin {
		w := newTwin(t, torn)
		w.write(t, 13, full("w")) // Mount writes over both
		w.write(t, k.end, full("w"))
		return w
	}
	do := func(w twin) error {
		_, err := bothMount(t, w, k.end)
		return err
	}
	eachCrash(t, start, do, func(w twin) {
		_, found := k.wantMounted(t, w)
		if len(found.records) != len(k.records) {
			t.Error("P9: a record that was safe is gone")
		}
	})
}

// Mount reads what is seen: a snapshot whose record waits is made safe by it, or lost.
func TestMountOfWhatWaits(t *testing.T) {
	k := newKeeper(8)
	k.snapshot(treeModel{}, "safe")
	safe := slices.Clone(k.sectors)
	before := k.end
	k.snapshot(treeModel{}, "a label of 20 bytes.")
	start := func() twin {
		w := newTwin(t, safe)
		for at := before; at < k.end; at++ {
			w.write(t, at, k.sectors[at])
		}
		w.write(t, 7, full("z"))
		return w
	}
	do := func(w twin) error {
		a, err := bothMount(t, w, k.end)
		if err == nil {
			k.wantKept(t, a)
		}
		return err
	}
	eachCrash(t, start, do, func(w twin) { k.wantMounted(t, w) })
}

// kept is a disk on which a snapshot is kept, the archive on it, and what the disk is to hold with a second one, of that archive's tree now.
type kept struct {
	twin
	archive       *keepsake.Archive
	before, after *keeper
}

func newKept(t *testing.T, sectors int, now treeModel, label string) kept {
	t.Helper()
	k := kept{before: newKeeper(sectors)}
	k.before.snapshot(treeModel{}, "first")
	k.twin = newTwin(t, k.before.sectors)
	k.archive = mounted(t, k.Disk)
	putAll(t, k.archive, now)
	k.after = k.before.upTo(len(k.before.records))
	_, err := k.after.snapshot(now, label)
	wantError(t, "P10: the model", err, nil)
	return k
}

// wantSnapshot does the second snapshot to the disk and to the model.
func (k kept) wantSnapshot(t *testing.T) error {
	t.Helper()
	info := k.after.infos[1]
	want, number := k.model.snapshot(k.before.end, k.after), 2
	counts := k.after
	if want != nil {
		number, counts = 0, k.before
	}
	n, err := k.archive.Snapshot(info.Label)
	wantError(t, "P10: Snapshot", err, want)
	if n != number {
		t.Errorf("P10: Snapshot: %d, want %d", n, number)
	}
	counts.wantKept(t, k.archive)
	wantModel(t, k.archive, 0, k.after.models[1])
	return want
}

// wantNoMore tells that an archive of which a Snapshot was ErrDown keeps no more, and does nothing to its disk.
func wantNoMore(t *testing.T, a *keepsake.Archive, w twin) {
	t.Helper()
	for _, label := range []string{"", "next", strings.Repeat("l", 21)} {
		n, err := a.Snapshot(label)
		wantError(t, "P10: Snapshot behind one that was ErrDown", err, keepsake.ErrDown)
		if n != 0 {
			t.Errorf("P1: %d beside an error", n)
		}
	}
	w.wantSame(t, "P10: Snapshot behind one that was ErrDown")
}

// The trees of which a second snapshot is stopped: with three objects, with a sector that is all 0, with no object.
func secondTrees() []treeModel {
	return []treeModel{{"a": "fx"}, {"a": "f" + strings.Repeat("\x00", 96)}, {}}
}

// Whatever waits when a Snapshot is stopped, and whatever of it a crash keeps: the first snapshot stays, the second is there wholly or not at all, and can be made once more.
func TestSnapshotThroughCrashesInAnyOrder(t *testing.T) {
	for _, now := range secondTrees() {
		for _, label := range []string{"second", "a label of 20 bytes."} {
			snapshotThroughCrashes(t, now, label)
		}
	}
}

func snapshotThroughCrashes(t *testing.T, now treeModel, label string) {
	t.Helper()
	var k kept
	start := func() twin {
		k = newKept(t, 14, now, label)
		k.write(t, k.before.end, full("w")) // waits at a place that the snapshot needs too
		return k.twin
	}
	eachCrash(t, start, func(twin) error { return k.wantSnapshot(t) }, func(w twin) {
		old, told := k.archive, k.archive.Snapshots()
		if len(told) == 1 {
			wantNoMore(t, old, w)
		}
		a, found := k.after.wantMounted(t, w)
		if len(found.infos) < len(told) {
			t.Fatal("P10: a snapshot that was told to be kept is gone")
		}
		if len(told) == 1 {
			wantNoMore(t, old, w)
		}
		if len(found.infos) == 1 {
			putAll(t, a, now)
		}
		found.wantSnapshot(t, a, w.Disk, now, "again")
		wantModel(t, a, len(found.infos), now)
		k.before.wantSnapshots(t, old)
	})
}

// wantSnapshots tells that an archive's first snapshots are these, and each what it had.
func (k *keeper) wantSnapshots(t *testing.T, a *keepsake.Archive) {
	t.Helper()
	if got := a.Snapshots(); len(got) < len(k.infos) || !slices.Equal(got[:len(k.infos)], k.infos) {
		t.Errorf("P10: Snapshots: %v, want %v", got, k.infos)
	}
	for n, m := range k.models {
		wantModel(t, a, n+1, m)
	}
}

// Each sector is an operation, one that is all 0 too: a chunk of 96 times 0 has two.
func TestSectorsOfZeroAreWritten(t *testing.T) {
	a, d, _ := formatted(t, 20)
	put(t, a, "a", strings.Repeat("\x00", 96))
	d.Fuse(8) // one behind two sectors of the chunk, one each of the file and the root, Flush, the snapshot's, Flush
	wantError(t, "P10: Snapshot of seven operations", second(a.Snapshot("")), nil)
	wantError(t, "P10: the eighth operation", d.Flush(), keepsake.ErrDown)
}

// Of several reasons the one that is named first is told, the disk being down.
func TestSnapshotOfADiskThatIsDown(t *testing.T) {
	a, d, k := formatted(t, 8)
	put(t, a, "f", strings.Repeat("0123456789", 60))
	d.Fuse(1)
	wantError(t, "P4: Flush", d.Flush(), keepsake.ErrDown)
	long := strings.Repeat("l", 21)
	wantError(t, "P10: a label that is too long", second(a.Snapshot(long)), keepsake.ErrBig)
	wantError(t, "P10: no room", second(a.Snapshot("")), keepsake.ErrFull)
	remove(t, a, "f")
	wantError(t, "P10: Snapshot", second(a.Snapshot("")), keepsake.ErrDown)
	wantError(t, "P10: a label that is too long, behind ErrDown", second(a.Snapshot(long)), keepsake.ErrDown)
	put(t, a, "f", strings.Repeat("0123456789", 60))
	wantError(t, "P10: no room, behind ErrDown", second(a.Snapshot("")), keepsake.ErrDown)
	wantWaiting(t, d, 0)
	d.Crash()
	wantError(t, "P10: behind ErrDown, the disk being up", second(a.Snapshot("")), keepsake.ErrDown)
	wantImage(t, "P10: nothing was written", d, k.sectors)
	b := mounted(t, d)
	k.wantSnapshot(t, b, d, treeModel{}, "of another archive")
	wantError(t, "P10: behind ErrDown, another archive being mounted", second(a.Snapshot("")), keepsake.ErrDown)
	wantFile(t, a, 0, "f", strings.Repeat("0123456789", 60))
}

// Neither ErrBig nor ErrFull is ErrDown: the archive goes on when the disk is up.
func TestSnapshotRefusedWhileDown(t *testing.T) {
	a, d, k := formatted(t, 4)
	put(t, a, "f", "x")
	d.Fuse(1)
	d.Flush()
	wantError(t, "P10: Snapshot", second(a.Snapshot(strings.Repeat("l", 21))), keepsake.ErrBig)
	wantError(t, "P10: Snapshot", second(a.Snapshot("")), keepsake.ErrFull)
	d.Crash()
	remove(t, a, "f")
	k.wantSnapshot(t, a, d, treeModel{}, "now")
}

// An archive knows of its disk, not of another archive on it.
func TestOneOfTwoArchivesStopped(t *testing.T) {
	a, d, k := formatted(t, 12)
	b := mounted(t, d)
	put(t, a, "f", "x")
	d.Fuse(2)
	wantError(t, "P10: Snapshot stopped", second(a.Snapshot("a")), keepsake.ErrDown)
	d.Crash()
	put(t, b, "g", "y")
	k.wantSnapshot(t, b, d, treeModel{"g": "fy"}, "b")
	wantError(t, "P10: Snapshot behind one that was stopped", second(a.Snapshot("a")), keepsake.ErrDown)
	k.wantKept(t, mounted(t, d))
}

// A fuse that is longer than a snapshot goes on behind it.
func TestFuseGoesOnBehindASnapshot(t *testing.T) {
	a, d, k := formatted(t, 12)
	d.Fuse(6)
	k.wantSnapshot(t, a, d, treeModel{}, "four operations")
	wantError(t, "P4: the fifth operation", d.Flush(), nil)
	wantError(t, "P10: Snapshot from the sixth on", second(a.Snapshot("")), keepsake.ErrDown)
	k.wantKept(t, a)
	d.Crash()
	k.wantKept(t, mounted(t, d))
}

func TestStoppedAskedFromOutside(t *testing.T) {
	d := keepsake.NewDisk(8)
	d.Fuse(2)
	got := []int{plain.Format(d)}
	plain.Crash(d, []int{0})
	got = append(got, plain.Format(d))
	a, mount := plain.Mount(d)
	d.Fuse(4)
	n, stopped := plain.Snapshot(a, "x")
	none, down := plain.Mount(d)
	plain.Crash(d, []int{0})
	m, again := plain.Snapshot(a, "x")
	b, last := plain.Mount(d)
	if got = append(got, mount, n, stopped, down, m, again, last); !slices.Equal(got, []int{2, 0, 0, 0, 2, 2, 0, 2, 0}) || none != nil {
		t.Errorf("P8 to P10: %v %v", got, none)
	}
	if len(a.Snapshots()) != 0 || len(b.Snapshots()) != 1 {
		t.Errorf("P10: snapshots %v %v", a.Snapshots(), b.Snapshots())
	}
}

// story is a long run of snapshots, crashes and mounts, each done to a model as well.
type story struct {
	twin
	r    *rand.Rand
	a    *keepsake.Archive
	k    *keeper   // what the archive has
	m    treeModel // its tree
	told *keeper   // what was told to be kept, as it was then
}

func newStory(t *testing.T, seed int64) *story {
	t.Helper()
	r := rand.New(rand.NewSource(seed))
	k := newKeeper(4 + r.Intn(150))
	s := &story{twin: newTwin(t, k.sectors), r: r, k: k, m: treeModel{}, told: k}
	s.a = mounted(t, s.Disk)
	return s
}

// scribble leaves writes that wait behind what is kept.
func (s *story) scribble(t *testing.T) {
	t.Helper()
	for free := len(s.k.sectors) - s.k.end; free > 0 && s.r.Intn(3) == 0; {
		s.write(t, s.k.end+s.r.Intn(min(free, 6)), full(letter(s.r.Intn(26))))
	}
}

// someKept is a choice of the writes that wait, in some order, some of them twice, some that are none.
func (s *story) someKept() []int {
	waiting := s.Waiting()
	var keep []int
	switch s.r.Intn(4) {
	case 0:
		return nil
	case 1: // all
		return s.r.Perm(waiting)
	}
	for range s.r.Intn(2*waiting + 1) {
		keep = append(keep, s.r.Intn(waiting+2)-1)
	}
	return keep
}

// crashAndMount crashes the disk until a Mount is not stopped; all is what would stand there if nothing had been stopped.
func (s *story) crashAndMount(t *testing.T, all *keeper) {
	t.Helper()
	old, kept := s.a, s.k
	for {
		s.crash(s.someKept())
		s.wantSame(t, "P4: Crash")
		s.k = all.upTo(all.whole(s.model.safe))
		s.fuse(s.r.Intn(6))
		a, err := bothMount(t, s.twin, s.k.end)
		s.wantSame(t, "P9: Mount")
		if err == nil {
			s.a, s.m = a, s.k.tree()
			break
		}
	}
	s.fuse(0)
	s.k.wantKept(t, s.a)
	wantModel(t, s.a, 0, s.m)
	s.told.wantSnapshots(t, s.a)
	kept.wantKept(t, old)
}

// snapshot does one, which may be stopped.
func (s *story) snapshot(t *testing.T) {
	t.Helper()
	label := strings.Repeat(letter(s.r.Intn(26)), s.r.Intn(22))
	all := s.k.upTo(len(s.k.records))
	want, wantErr := all.snapshot(s.m, label)
	if wantErr == nil {
		wantErr = s.model.snapshot(s.k.end, all)
	}
	if wantErr != nil {
		want = 0
	}
	got, err := s.a.Snapshot(label)
	wantError(t, "P10: Snapshot", err, wantErr)
	if got != want {
		t.Errorf("P10: Snapshot: %d, want %d", got, want)
	}
	s.wantSame(t, "P10: Snapshot")
	switch wantErr {
	case nil:
		s.k, s.told = all, all
	case keepsake.ErrDown:
		wantNoMore(t, s.a, s.twin)
		s.k.wantKept(t, s.a)
		s.crashAndMount(t, all)
	}
}

func TestCrashesAgainstModel(t *testing.T) {
	for seed := range int64(60) {
		s := newStory(t, seed)
		for range 30 {
			for range s.r.Intn(8) {
				change(t, s.r, s.a, s.m)
			}
			s.scribble(t)
			if s.r.Intn(2) == 0 {
				s.fuse(s.r.Intn(30))
			}
			s.snapshot(t)
			if s.r.Intn(6) == 0 {
				s.crashAndMount(t, s.k)
			}
			if t.Failed() {
				t.Fatalf("seed %d", seed)
			}
		}
	}
}
