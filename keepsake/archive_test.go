package keepsake_test

import (
	"encoding/binary"
	"hash/crc32"
	"math"
	"slices"
	"strings"
	"testing"

	"keepsake/keepsake"
	"keepsake/plain"
)

// emptyArchive is mounted on a disk of its own.
func emptyArchive(t *testing.T) *keepsake.Archive {
	t.Helper()
	d := keepsake.NewDisk(8)
	wantError(t, "P8: Format", keepsake.Format(d), nil)
	return mounted(t, d)
}

func mounted(t *testing.T, d *keepsake.Disk) *keepsake.Archive {
	t.Helper()
	a, err := keepsake.Mount(d)
	if a == nil || err != nil {
		t.Fatalf("P9: Mount: %v", err)
	}
	return a
}

// head is P7's sector 0, made by the library's CRC.
func head(sectors int) string {
	b := binary.BigEndian.AppendUint32([]byte("archive1"), uint32(sectors))
	b = binary.BigEndian.AppendUint32(b, crc32.ChecksumIEEE(b))
	return string(b) + strings.Repeat("\x00", 48)
}

func image(t *testing.T, d *keepsake.Disk) []string {
	t.Helper()
	var all []string
	for at := range d.Sectors() {
		text, err := d.Read(at)
		wantError(t, "P4: Read", err, nil)
		all = append(all, text)
	}
	return all
}

func wantImage(t *testing.T, what string, d *keepsake.Disk, want []string) {
	t.Helper()
	for at, got := range image(t, d) {
		if got != want[at] {
			t.Errorf("%s: sector %d: %q, want %q", what, at, got, want[at])
		}
	}
}

// blankButHead is what Format leaves.
func blankButHead(sectors int) []string {
	all := slices.Repeat([]string{full("\x00")}, sectors)
	all[0] = head(sectors)
	return all
}

// laid is a disk with these sectors, all safe.
func laid(t *testing.T, sectors []string) *keepsake.Disk {
	t.Helper()
	d := keepsake.NewDisk(len(sectors))
	for at, text := range sectors {
		wantError(t, "P4: Write", d.Write(at, text), nil)
	}
	wantError(t, "P4: Flush", d.Flush(), nil)
	return d
}

func TestFormatOfExample4(t *testing.T) {
	d := keepsake.NewDisk(8)
	wantError(t, "P8: Format", keepsake.Format(d), nil)
	begin := "\x61\x72\x63\x68\x69\x76\x65\x31\x00\x00\x00\x08"
	text, _ := d.Read(0)
	crc := keepsake.CRC(begin)
	want := begin + string([]byte{byte(crc >> 24), byte(crc >> 16), byte(crc >> 8), byte(crc)}) + strings.Repeat("\x00", 48)
	if text != want {
		t.Errorf("P7: sector 0: %x, want %x", text, want)
	}
	if list := mounted(t, d).Snapshots(); len(list) != 0 {
		t.Errorf("P9: snapshots of an empty archive: %v", list)
	}
}

func TestFormatOfEverySize(t *testing.T) {
	for _, n := range []int{1, 2, 3} {
		d := laid(t, slices.Repeat([]string{full("a")}, n))
		before := image(t, d)
		wantError(t, "P8: Format of a small disk", keepsake.Format(d), keepsake.ErrArg)
		wantWaiting(t, d, 0)
		wantImage(t, "P8: Format of a small disk", d, before)
		d.Fuse(1)
		d.Flush()
		wantError(t, "P8: Format of a small disk that is down", keepsake.Format(d), keepsake.ErrArg)
	}
	for _, n := range []int{4, 5, 255, 256, 257, 4095, 4096} {
		d := laid(t, slices.Repeat([]string{full("a")}, n))
		wantError(t, "P8: Format", keepsake.Format(d), nil)
		wantWaiting(t, d, 0)
		wantImage(t, "P8: Format", d, blankButHead(n))
		d.Crash()
		wantImage(t, "P8: Format, and a crash", d, blankButHead(n))
		mounted(t, d)
	}
}

// usedDisk has sectors that are 0 and sectors that are not, one of them by a write that waits; and what is safe there.
func usedDisk(t *testing.T) (*keepsake.Disk, []string) {
	t.Helper()
	safe := []string{full("a"), full("\x00"), full("\x00")[1:] + "b", full("\x00"), "c" + full("\x00")[1:]}
	d := laid(t, safe)
	wantError(t, "P4: Write", d.Write(3, full("w")), nil)
	return d, safe
}

// Format of usedDisk needs four writes with 0, a Flush, a write, a Flush: the fuse stops it at each of them.
func TestFormatStoppedAnywhere(t *testing.T) {
	blank := full("\x00")
	for fuse := 1; fuse <= 8; fuse++ {
		d, safe := usedDisk(t)
		seen := image(t, d)
		d.Fuse(fuse)
		err := keepsake.Format(d)
		if fuse == 8 {
			wantError(t, "P8: Format with seven operations", err, nil)
			continue
		}
		wantError(t, "P8: Format stopped", err, keepsake.ErrDown)
		for i, at := range []int{0, 2, 3, 4} {
			if fuse > i+1 {
				seen[at] = blank
			}
		}
		waiting := fuse // usedDisk's own, and those ahead of the one that goes down
		if fuse > 5 {   // the first Flush is done
			waiting = fuse - 6
			safe = slices.Repeat([]string{blank}, 5)
		}
		if fuse == 7 {
			seen = blankButHead(5)
		}
		wantWaiting(t, d, waiting)
		wantImage(t, "P8: what was done is done", d, seen)
		d.Crash()
		wantImage(t, "P8: what was safe ahead of it", d, safe)
	}
}

func TestFormatWritesInOrder(t *testing.T) {
	d, safe := usedDisk(t)
	d.Fuse(5)
	wantError(t, "P8: Format stopped ahead of its first Flush", keepsake.Format(d), keepsake.ErrDown)
	d.Crash(1, 3) // place 0 is usedDisk's own write; 1 to 4 are sectors 0, 2, 3, 4
	safe[0], safe[3] = full("\x00"), full("\x00")
	wantImage(t, "P8: the writes come in the sectors' order", d, safe)
}

func TestFormatOfADiskThatIsDown(t *testing.T) {
	d := keepsake.NewDisk(4)
	d.Fuse(1)
	d.Flush()
	wantError(t, "P8: Format", keepsake.Format(d), keepsake.ErrDown)
	d.Crash()
	wantError(t, "P8: Format", keepsake.Format(d), nil)
}

func TestFormatAgain(t *testing.T) {
	d := keepsake.NewDisk(4)
	for range 3 {
		wantError(t, "P8: Format", keepsake.Format(d), nil)
		wantImage(t, "P8: Format once more", d, blankButHead(4))
	}
	d.Fuse(2)
	wantError(t, "P8: Format stopped at its first Flush", keepsake.Format(d), keepsake.ErrDown)
	d.Crash(0)
	_, err := keepsake.Mount(d)
	wantError(t, "P9: Mount behind a Format that was stopped", err, keepsake.ErrFormat)
}

// noArchive tells that Mount refuses a disk and does nothing to it.
func noArchive(t *testing.T, sectors []string) {
	t.Helper()
	d := laid(t, sectors)
	d.Fuse(1)
	a, err := keepsake.Mount(d)
	wantError(t, "P9: Mount", err, keepsake.ErrFormat)
	if a != nil {
		t.Error("P1: an archive beside an error")
	}
	wantImage(t, "P9: Mount refused", d, sectors)
	wantWaiting(t, d, 0)
	wantError(t, "P9: Mount refused is no operation", d.Flush(), keepsake.ErrDown)
	_, err = keepsake.Mount(d)
	wantError(t, "P9: Mount of a disk that is down", err, keepsake.ErrFormat)
}

func TestMountWhereNoArchiveIs(t *testing.T) {
	for _, n := range []int{1, 2, 3} {
		noArchive(t, blankButHead(n))
	}
	noArchive(t, slices.Repeat([]string{full("\x00")}, 4))
	noArchive(t, slices.Repeat([]string{full("a")}, 4))
	for _, other := range []int{0, 4, 6, 1029, 65541} { // 1029 and 65541 end in the byte 5
		sectors := blankButHead(5)
		sectors[0] = head(other)
		noArchive(t, sectors)
	}
}

func TestMountOfADamagedHead(t *testing.T) {
	for at := range 64 {
		for _, change := range []byte{1, 0x80, 0xff} {
			sectors := blankButHead(5)
			b := []byte(sectors[0])
			b[at] ^= change
			sectors[0] = string(b)
			sectors[3] = full("a")
			noArchive(t, sectors)
		}
	}
}

func TestMountClearsWhatIsNoRecord(t *testing.T) {
	sectors := blankButHead(6)
	sectors[2], sectors[5] = full("\xff"), full("\x00")[1:]+"x"
	for _, first := range []string{full("\x00"), full("\xff"), full("a"), full("\x00")[1:] + "a"} {
		sectors[1] = first
		d := laid(t, sectors)
		d.Write(4, full("w"))
		if a := mounted(t, d); len(a.Snapshots()) != 0 {
			t.Error("P9: snapshots, where no record is")
		}
		wantWaiting(t, d, 0)
		d.Crash()
		wantImage(t, "P9: Mount clears what is no record", d, blankButHead(6))
	}
}

func TestMountStoppedAnywhere(t *testing.T) {
	for fuse := 1; fuse <= 4; fuse++ {
		sectors := blankButHead(6)
		sectors[2], sectors[5] = full("\xff"), full("a")
		d := laid(t, sectors)
		d.Fuse(fuse)
		a, err := keepsake.Mount(d)
		if fuse == 4 {
			wantError(t, "P9: Mount with three operations", err, nil)
			continue
		}
		wantError(t, "P9: Mount stopped", err, keepsake.ErrDown)
		if a != nil {
			t.Error("P1: an archive beside an error")
		}
		wantWaiting(t, d, fuse-1)
		d.Crash(0)
		if fuse > 1 {
			sectors[2] = full("\x00")
		}
		wantImage(t, "P9: what was done is done", d, sectors)
		mounted(t, d)
		wantImage(t, "P9: Mount clears the rest", d, blankButHead(6))
	}
}

func TestMountFlushesWhereNothingIsToBeCleared(t *testing.T) {
	d := laid(t, blankButHead(4))
	d.Fuse(1)
	_, err := keepsake.Mount(d)
	wantError(t, "P9: Mount", err, keepsake.ErrDown)
	_, err = keepsake.Mount(d)
	wantError(t, "P9: Mount of a disk that is down", err, keepsake.ErrDown)
	d.Crash()
	mounted(t, d)
}

func TestTheTreeIsNotOnTheDisk(t *testing.T) {
	d := laid(t, blankButHead(8))
	a := mounted(t, d)
	wantError(t, "P6: Write", a.Write("a", "x"), nil)
	wantWaiting(t, d, 0)
	wantImage(t, "P6: the tree changes nothing on the disk", d, blankButHead(8))
	d.Fuse(1)
	d.Flush()
	wantError(t, "P6: Write, the disk being down", a.Write("b", "x"), nil)
	wantEntries(t, a, 0, "", "a:1", "b:1")
	d.Crash()
	b := mounted(t, d)
	wantEntries(t, b, 0, "")
	wantError(t, "P6: Mkdir", b.Mkdir("c"), nil)
	wantEntries(t, a, 0, "", "a:1", "b:1")
}

func TestSnapshotsThatAreNot(t *testing.T) {
	a := emptyArchive(t)
	wantError(t, "P6: Write", a.Write("a", "x"), nil)
	for _, n := range []int{math.MinInt, -1, 1, 2, math.MaxInt} {
		for path, want := range map[string]error{
			"": keepsake.ErrNone, "a": keepsake.ErrNone, "a/b": keepsake.ErrNone, "A": keepsake.ErrPath, "/": keepsake.ErrPath,
		} {
			wantReadError(t, a, n, path, want)
			wantListError(t, a, n, path, want)
		}
	}
	if len(a.Snapshots()) != 0 || a.Verify() != nil {
		t.Error("P10, P12: an archive on which nothing is kept")
	}
}

func TestArchiveAskedFromOutside(t *testing.T) {
	d := keepsake.NewDisk(4)
	_, none := plain.Mount(d)
	format := plain.Format(d)
	a, ok := plain.Mount(d)
	got := []int{none, format, ok, plain.Mkdir(a, "d"), plain.Put(a, "d/f", "text"), plain.Mkdir(a, "d"), plain.Remove(a, "d"), plain.Put(a, "", ""), plain.Remove(a, "x")}
	if want := []int{3, 0, 0, 0, 0, 8, 9, 5, 6}; !slices.Equal(got, want) {
		t.Errorf("P6, P8, P9: reasons %v, want %v", got, want)
	}
	if text, n, at := plain.Get(a, 0, "d/f"); text != "text" || n != 0 || at != -1 {
		t.Errorf("P11: Read: %q %d %d", text, n, at)
	}
	if list, n, at, more := plain.List(a, 0, "d", 0); !slices.Equal(list, []keepsake.Entry{{Name: "f", Size: 4}}) || n != 0 || at != -1 || more {
		t.Errorf("P11: List: %v %d %d %v", list, n, at, more)
	}
	if list, n, at, more := plain.List(a, 0, "d/f", 0); len(list) != 0 || n != 7 || at != -1 || more {
		t.Errorf("P11: List of a file: %v %d %d %v", list, n, at, more)
	}
}
