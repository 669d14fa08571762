package keepsake_test

import (
	"errors"
	"math"
	"math/rand"
	"slices"
	"strings"
	"sync"
	"testing"
	"unsafe"

	"keepsake/keepsake"
	"keepsake/plain"
)

// full is a sector of one byte; "\x00" is one that was never written.
func full(b string) string { return strings.Repeat(b, 64) }

func wantSector(t *testing.T, d *keepsake.Disk, at int, want string) {
	t.Helper()
	if got, err := d.Read(at); got != want || err != nil {
		t.Errorf("P4: sector %d: %q %v, want %q", at, got, err, want)
	}
}

func wantError(t *testing.T, what string, got, want error) {
	t.Helper()
	if !errors.Is(got, want) || got == nil != (want == nil) {
		t.Errorf("%s: %v, want %v", what, got, want)
	}
}

func wantWaiting(t *testing.T, d *keepsake.Disk, want int) {
	t.Helper()
	if got := d.Waiting(); got != want {
		t.Errorf("P4: %d wait, want %d", got, want)
	}
}

func TestNewDiskSizes(t *testing.T) {
	for n, want := range map[int]int{
		math.MinInt: 1, -1: 1, 0: 1, 1: 1, 2: 2, 3: 3, 4: 4, 4095: 4095, 4096: 4096, 4097: 4096, math.MaxInt: 4096,
	} {
		d := keepsake.NewDisk(n)
		if got := d.Sectors(); got != want {
			t.Errorf("P4: NewDisk(%d): %d sectors, want %d", n, got, want)
		}
		wantWaiting(t, d, 0)
		for at := range want {
			wantSector(t, d, at, full("\x00"))
		}
	}
}

func TestSectorsThatAreNot(t *testing.T) {
	d := keepsake.NewDisk(4)
	for _, at := range []int{math.MinInt, -1, 4, 5, 4096, math.MaxInt} {
		text, err := d.Read(at)
		wantError(t, "P4: Read", err, keepsake.ErrArg)
		if text != "" {
			t.Errorf("P1: Read(%d): %q beside an error", at, text)
		}
		wantError(t, "P4: Write", d.Write(at, full("a")), keepsake.ErrArg)
	}
	wantWaiting(t, d, 0)
}

func TestDataThatIsNoSector(t *testing.T) {
	d := keepsake.NewDisk(4)
	for _, n := range []int{0, 1, 63, 65, 128, 100_000} {
		wantError(t, "P4: Write", d.Write(1, strings.Repeat("a", n)), keepsake.ErrArg)
	}
	wantWaiting(t, d, 0)
	wantSector(t, d, 1, full("\x00"))
}

func TestWriteIsSeenAndWaits(t *testing.T) {
	d := keepsake.NewDisk(4)
	wantError(t, "P4: Write", d.Write(3, full("a")), nil)
	wantSector(t, d, 3, full("a"))
	wantError(t, "P4: Write", d.Write(3, full("b")), nil)
	wantSector(t, d, 3, full("b"))
	wantSector(t, d, 2, full("\x00"))
	wantWaiting(t, d, 2)
	d.Crash()
	wantSector(t, d, 3, full("\x00"))
	wantWaiting(t, d, 0)
}

func TestFlushMakesSafe(t *testing.T) {
	d := keepsake.NewDisk(4)
	wantError(t, "P4: Flush of nothing", d.Flush(), nil)
	d.Write(0, full("a"))
	d.Write(0, full("b"))
	d.Write(3, full("c"))
	wantError(t, "P4: Flush", d.Flush(), nil)
	wantWaiting(t, d, 0)
	d.Write(3, full("d"))
	d.Write(1, full("e"))
	d.Crash()
	for at, b := range []string{"b", "\x00", "\x00", "c"} {
		wantSector(t, d, at, full(b))
	}
}

func TestCrashOfExample2(t *testing.T) {
	d := keepsake.NewDisk(4)
	d.Write(1, full("x"))
	d.Write(1, full("y"))
	d.Write(2, full("z"))
	wantWaiting(t, d, 3)
	d.Crash(1, 0)
	wantSector(t, d, 1, full("x"))
	wantSector(t, d, 2, full("\x00"))
}

func TestCrashKeepsInOrder(t *testing.T) {
	for _, c := range []struct {
		keep   []int
		s1, s2 string
	}{
		{nil, "s", "\x00"},
		{[]int{}, "s", "\x00"},
		{[]int{0}, "a", "\x00"},
		{[]int{1}, "b", "\x00"},
		{[]int{2}, "s", "c"},
		{[]int{0, 1, 2}, "b", "c"},
		{[]int{2, 1, 0}, "a", "c"},
		{[]int{0, 1, 0}, "a", "\x00"},
		{[]int{1, 1, 0, 1}, "b", "\x00"},
		{[]int{3, -1, math.MinInt, math.MaxInt}, "s", "\x00"},
		{[]int{-1, 2, 3, 1, 4}, "b", "c"},
	} {
		d := keepsake.NewDisk(4)
		d.Write(1, full("s"))
		d.Flush()
		d.Write(1, full("a"))
		d.Write(1, full("b"))
		d.Write(2, full("c"))
		keep := slices.Clone(c.keep)
		d.Crash(keep...)
		if !slices.Equal(keep, c.keep) {
			t.Errorf("P2: Crash changed %v to %v", c.keep, keep)
		}
		wantWaiting(t, d, 0)
		d.Write(1, full("q"))
		d.Write(2, full("q"))
		d.Crash() // what the first one kept is safe
		wantSector(t, d, 1, full(c.s1))
		wantSector(t, d, 2, full(c.s2))
	}
}

func TestPlacesBeginAnew(t *testing.T) {
	d := keepsake.NewDisk(4)
	d.Write(0, full("a"))
	d.Flush()
	d.Write(1, full("b"))
	d.Crash(0)
	wantSector(t, d, 1, full("b"))
	d.Write(2, full("c"))
	d.Crash(0)
	for at, b := range []string{"a", "b", "c", "\x00"} {
		wantSector(t, d, at, full(b))
	}
}

func TestFuseOfExample3(t *testing.T) {
	d := keepsake.NewDisk(4)
	d.Fuse(2)
	wantError(t, "P4: Write", d.Write(0, full("a")), nil)
	wantError(t, "P4: Flush", d.Flush(), keepsake.ErrDown)
	wantError(t, "P4: Write", d.Write(1, full("b")), keepsake.ErrDown)
	wantWaiting(t, d, 1)
	wantSector(t, d, 0, full("a"))
	wantSector(t, d, 1, full("\x00"))
	d.Crash()
	wantSector(t, d, 0, full("\x00"))
	wantError(t, "P4: Write", d.Write(1, full("b")), nil)
}

func TestFuseCountsOperationsOnly(t *testing.T) {
	d := keepsake.NewDisk(4)
	d.Fuse(3)
	wantError(t, "P4: Write", d.Write(4, full("a")), keepsake.ErrArg)
	wantError(t, "P4: Write", d.Write(0, "a"), keepsake.ErrArg)
	d.Read(0)
	d.Waiting()
	d.Sectors()
	wantError(t, "P4: Flush", d.Flush(), nil)
	wantError(t, "P4: Write", d.Write(0, full("a")), nil)
	wantError(t, "P4: Write", d.Write(0, full("b")), keepsake.ErrDown)
	wantError(t, "P4: Write", d.Write(0, "b"), keepsake.ErrArg)
	wantError(t, "P4: Write", d.Write(-1, full("b")), keepsake.ErrArg)
	wantError(t, "P4: Flush", d.Flush(), keepsake.ErrDown)
	wantSector(t, d, 0, full("a"))
	wantWaiting(t, d, 1)
}

func TestFuseAnewAndOut(t *testing.T) {
	for _, out := range []int{0, -1, math.MinInt, math.MaxInt} {
		d := keepsake.NewDisk(1)
		d.Fuse(1)
		d.Fuse(out)
		for range 10 {
			wantError(t, "P4: Flush, the fuse out", d.Flush(), nil)
		}
	}
	d := keepsake.NewDisk(1)
	d.Fuse(5)
	d.Flush()
	d.Fuse(2)
	wantError(t, "P4: Flush", d.Flush(), nil)
	wantError(t, "P4: Flush, the second fuse", d.Flush(), keepsake.ErrDown)
	d.Crash()
	d.Fuse(1)
	d.Fuse(3)
	wantError(t, "P4: Flush", d.Flush(), nil)
	wantError(t, "P4: Flush", d.Flush(), nil)
	wantError(t, "P4: Flush, the longer fuse", d.Flush(), keepsake.ErrDown)
}

func TestDownStaysDownUpToCrash(t *testing.T) {
	for _, n := range []int{-1, 0, 1, 2, 9} {
		d := keepsake.NewDisk(1)
		d.Write(0, full("a"))
		d.Fuse(1)
		wantError(t, "P4: Flush", d.Flush(), keepsake.ErrDown)
		d.Fuse(n)
		for range 12 {
			wantError(t, "P4: Flush of a disk that is down", d.Flush(), keepsake.ErrDown)
		}
		d.Fuse(n)
		d.Crash(0)
		for range 12 {
			wantError(t, "P4: Flush behind a crash", d.Flush(), nil)
		}
		wantSector(t, d, 0, full("a"))
	}
}

func TestCrashPutsTheFuseOut(t *testing.T) {
	d := keepsake.NewDisk(1)
	d.Fuse(1)
	d.Crash()
	wantError(t, "P4: Flush", d.Flush(), nil)
}

func TestDisksKnowNothingOfEachOther(t *testing.T) {
	d, e := keepsake.NewDisk(2), keepsake.NewDisk(2)
	d.Write(0, full("a"))
	d.Fuse(1)
	d.Flush()
	wantSector(t, e, 0, full("\x00"))
	wantWaiting(t, e, 0)
	wantError(t, "P4: Flush of the other", e.Flush(), nil)
	e.Crash()
	wantError(t, "P4: Flush", d.Flush(), keepsake.ErrDown)
}

func TestWhatIsWrittenIsNotKept(t *testing.T) {
	d := keepsake.NewDisk(2)
	b := []byte(full("a"))
	d.Write(0, unsafe.String(&b[0], len(b)))
	b[0] = 'b'
	wantSector(t, d, 0, full("a"))
	d.Flush()
	b[1] = 'b'
	wantSector(t, d, 0, full("a"))
}

func TestDiskAskedFromOutside(t *testing.T) {
	d := keepsake.NewDisk(2)
	got := []int{plain.Write(d, 2, full("a")), plain.Write(d, 1, full("a")), plain.Flush(d)}
	d.Fuse(1)
	got = append(got, plain.Flush(d))
	plain.Crash(d, nil)
	got = append(got, plain.Flush(d))
	_, n := plain.Read(d, -1)
	if got = append(got, n); !slices.Equal(got, []int{1, 0, 0, 2, 0, 1}) {
		t.Errorf("P4: reasons %v", got)
	}
}

func TestDiskUsedByManyAtOnce(t *testing.T) {
	const workers, rounds = 8, 200
	d := keepsake.NewDisk(workers)
	var done sync.WaitGroup
	for w := range workers {
		done.Go(func() {
			for range rounds {
				d.Write(w, full(string(rune('a'+w))))
				d.Read((w + 1) % workers)
				d.Waiting()
			}
		})
	}
	done.Wait()
	wantWaiting(t, d, workers*rounds)
	for w := range workers {
		wantSector(t, d, w, full(string(rune('a'+w))))
	}
}

// model is P4 told over again in the simplest way: what is seen is what is safe with all that waits done to it.
type model struct {
	safe    []string
	at      []int
	data    []string
	left    int
	lit, up bool
}

func (m *model) seen(at int) string {
	s := m.safe[at]
	for i := range m.at {
		if m.at[i] == at {
			s = m.data[i]
		}
	}
	return s
}

func (m *model) operation() bool {
	if m.lit {
		m.left--
		if m.left == 0 {
			m.up, m.lit = false, false
		}
	}
	return m.up
}

func (m *model) write(at int, data string) error {
	if at < 0 || at >= len(m.safe) || len(data) != 64 {
		return keepsake.ErrArg
	}
	if !m.operation() {
		return keepsake.ErrDown
	}
	m.at, m.data = append(m.at, at), append(m.data, data)
	return nil
}

func (m *model) flush() error {
	if !m.operation() {
		return keepsake.ErrDown
	}
	for i, at := range m.at {
		m.safe[at] = m.data[i]
	}
	m.at, m.data = nil, nil
	return nil
}

func (m *model) crash(keep []int) {
	for _, k := range keep {
		if k >= 0 && k < len(m.at) {
			m.safe[m.at[k]] = m.data[k]
		}
	}
	m.at, m.data, m.lit, m.up = nil, nil, false, true
}

func TestDiskAgainstModel(t *testing.T) {
	for seed := range int64(300) {
		r := rand.New(rand.NewSource(seed))
		n := 1 + r.Intn(6)
		d, m := keepsake.NewDisk(n), &model{up: true}
		for range n {
			m.safe = append(m.safe, full("\x00"))
		}
		for range 120 {
			step(t, r, d, m)
			wantWaiting(t, d, len(m.at))
			for at := range n {
				wantSector(t, d, at, m.seen(at))
			}
			if t.Failed() {
				t.Fatalf("seed %d", seed)
			}
		}
	}
}

// step does one thing to both.
func step(t *testing.T, r *rand.Rand, d *keepsake.Disk, m *model) {
	t.Helper()
	switch k := r.Intn(20); {
	case k < 12:
		at, data := r.Intn(len(m.safe)+2)-1, full(string(rune('a'+r.Intn(26))))
		if r.Intn(10) == 0 {
			data = data[1:]
		}
		wantError(t, "P4: Write", d.Write(at, data), m.write(at, data))
	case k < 15:
		wantError(t, "P4: Flush", d.Flush(), m.flush())
	case k < 17:
		n := r.Intn(12) - 2
		d.Fuse(n)
		m.left, m.lit = n, n > 0
	default:
		var keep []int
		for range r.Intn(6) {
			keep = append(keep, r.Intn(len(m.at)+3)-1)
		}
		d.Crash(keep...)
		m.crash(keep)
	}
}
