package keepsake_test

import (
	"maps"
	"slices"
	"strings"
	"testing"

	"keepsake/keepsake"
)

// twoKept is an archive with a snapshot, whose tree is the model's now, and what the disk will hold with a second snapshot of it.
func twoKept(t *testing.T, label string) (*keepsake.Archive, *keepsake.Disk, *keeper, *keeper) {
	t.Helper()
	a, d, before := formatted(t, 40)
	m := treeModel{"f": "fx"}
	putAll(t, a, m)
	before.wantSnapshot(t, a, d, m, "first")
	now := treeModel{"f": "fx", "g": "f" + strings.Repeat("0123456789", 15)}
	put(t, a, "g", now["g"][1:])
	after := newKeeper(40)
	after.snapshot(m, "first")
	_, err := after.snapshot(now, label)
	wantError(t, "P10: the model", err, nil)
	return a, d, before, after
}

// wantStopped tells that a Snapshot was ErrDown, and that nothing of it counts.
func wantStopped(t *testing.T, a *keepsake.Archive, before *keeper, label string) {
	t.Helper()
	n, err := a.Snapshot(label)
	wantError(t, "P10: Snapshot stopped", err, keepsake.ErrDown)
	if n != 0 {
		t.Errorf("P1: %d beside an error", n)
	}
	before.wantInfos(t, a)
	wantReadError(t, a, 2, "f", keepsake.ErrNone)
	wantModel(t, a, 1, before.models[0])
	wantError(t, "P12: Verify", a.Verify(), nil)
	wantEntries(t, a, 0, "", "f:1", "g:150")
}

func TestSnapshotStoppedAnywhere(t *testing.T) {
	for _, label := range []string{"second", strings.Repeat("l", 20)} {
		for fuse := 1; ; fuse++ {
			a, d, before, after := twoKept(t, label)
			first := before.end
			last := after.first[len(after.first)-1]
			objects, sheets := last-first, after.end-last
			d.Fuse(fuse)
			if fuse > objects+1+sheets+1 {
				if n, err := a.Snapshot(label); n != 2 || err != nil {
					t.Errorf("P10: Snapshot with enough operations: %d %v", n, err)
				}
				break
			}
			wantStopped(t, a, before, label)
			written, flushed := fuse-1, first // sectors that are seen, and the end of those that are safe
			if fuse > objects+1 {
				written, flushed = fuse-2, last
			}
			wantWaiting(t, d, first+written-flushed)
			wantImage(t, "P10: what was written stands on the disk", d, clearedFrom(after.sectors, first+written))
			d.Crash()
			wantImage(t, "P10: what is safe", d, clearedFrom(after.sectors, flushed))
			_, err := a.Snapshot(strings.Repeat("l", 21))
			wantError(t, "P10: Snapshot behind one that was stopped", err, keepsake.ErrDown)
			wantWaiting(t, d, 0)
			b := mounted(t, d)
			before.wantInfos(t, b)
			wantModel(t, b, 0, before.models[0])
			wantImage(t, "P9: records without a snapshot stay", d, clearedFrom(after.sectors, flushed))
			put(t, b, "g", strings.Repeat("0123456789", 15))
			if n, err := b.Snapshot(label); n != 2 || err != nil {
				t.Errorf("P10: Snapshot once more: %d %v", n, err)
			}
			wantImage(t, "P10: what was read is not written again", d, after.sectors)
			if t.Failed() {
				t.Fatalf("fuse %d", fuse)
			}
		}
	}
}

func TestSnapshotOfExample9(t *testing.T) {
	start := func(fuse int) (*keepsake.Archive, *keepsake.Disk, *keeper) {
		a, d, k := formatted(t, 8)
		put(t, a, "f", "")
		k.snapshot(treeModel{"f": "f"}, "x")
		d.Fuse(fuse)
		_, err := a.Snapshot("x")
		wantError(t, "P10: Snapshot", err, keepsake.ErrDown)
		return a, d, k
	}
	_, d, _ := start(2)
	d.Crash()
	if list := mounted(t, d).Snapshots(); len(list) != 0 {
		t.Errorf("P9: snapshots %v", list)
	}
	a, d, k := start(5)
	d.Crash(0)
	b := mounted(t, d)
	k.wantInfos(t, b)
	wantFile(t, b, 1, "f", "")
	if len(a.Snapshots()) != 0 {
		t.Error("P10: a Snapshot that was ErrDown counts")
	}
}

// Of what waits any part may come through: the first snapshot stays, the second is there wholly or not at all.
func TestSnapshotThroughCrashes(t *testing.T) {
	const label = "a label of 20 bytes." // so that the snapshot's record has two sectors
	for fuse := 1; ; fuse++ {
		a, d, before, after := twoKept(t, label)
		d.Fuse(fuse)
		if _, err := a.Snapshot(label); err == nil {
			break
		}
		seen, waiting := image(t, d), d.Waiting()
		for part := range 1 << waiting {
			var keep []int
			for place := range waiting {
				if part>>place&1 == 1 {
					keep = append(keep, place)
				}
			}
			a, d, _, _ := twoKept(t, label)
			d.Fuse(fuse)
			a.Snapshot(label)
			d.Crash(keep...)
			b := mounted(t, d)
			want := before
			if slices.Equal(seen, after.sectors) && len(keep) == waiting {
				want = after
			}
			want.wantInfos(t, b)
			for n, kept := range want.models {
				wantModel(t, b, n+1, kept)
			}
			wantModel(t, b, 0, want.models[len(want.models)-1])
			wantError(t, "P12: Verify", b.Verify(), nil)
			m := maps.Clone(after.models[1])
			if want == before {
				put(t, b, "g", m["g"][1:])
			}
			if n, err := b.Snapshot("next"); n != len(want.infos)+1 || err != nil {
				t.Errorf("P10: Snapshot behind a crash: %d %v", n, err)
			}
			wantModel(t, mounted(t, d), 0, m)
			if t.Failed() {
				t.Fatalf("fuse %d, kept %v", fuse, keep)
			}
		}
	}
}

// Without objects to be written there is one Flush alone.
func TestSnapshotOfWhatIsKeptNeedsTwoOperations(t *testing.T) {
	for fuse := 1; fuse <= 3; fuse++ {
		a, d, _ := formatted(t, 12)
		put(t, a, "f", "x")
		wantError(t, "P10: Snapshot", second(a.Snapshot("")), nil)
		d.Fuse(fuse)
		n, err := a.Snapshot("again")
		if fuse == 3 {
			if n != 2 || err != nil {
				t.Errorf("P10: Snapshot with two operations: %d %v", n, err)
			}
			wantError(t, "P10: the third operation", d.Flush(), keepsake.ErrDown)
			continue
		}
		wantError(t, "P10: Snapshot stopped", err, keepsake.ErrDown)
		wantWaiting(t, d, fuse-1)
	}
}
