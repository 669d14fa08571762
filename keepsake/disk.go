package keepsake

import "sync"

const (
	sectorSize  = 64
	mostSectors = 4096
)

type sector [sectorSize]byte

// write is a write that waits; its place is its index in Disk.waiting.
type write struct {
	at   int
	data sector
}

// Disk is a stand-in for a disk (P4).
type Disk struct {
	lock    sync.Mutex
	safe    []sector       // never grows or shrinks: its length is read without the lock
	seen    map[int]sector // the sectors for which a write waits, as they were written last
	waiting []write
	fuse    int // the operations up to the one that goes down; 0: none is lit
	down    bool
}

// NewDisk makes one (P4).
func NewDisk(sectors int) *Disk {
	n := min(max(sectors, 1), mostSectors)
	return &Disk{safe: make([]sector, n), seen: map[int]sector{}}
}

// Sectors tells how many it has (P4).
func (d *Disk) Sectors() int { return len(d.safe) }

// Read tells a sector (P4).
func (d *Disk) Read(at int) (string, error) {
	if !d.has(at) {
		return "", ErrArg
	}
	d.lock.Lock()
	defer d.lock.Unlock()
	s, ok := d.seen[at]
	if !ok {
		s = d.safe[at]
	}
	return string(s[:]), nil
}

// Write changes a sector (P4).
func (d *Disk) Write(at int, data string) error {
	if !d.has(at) || len(data) != sectorSize {
		return ErrArg
	}
	return d.operate(func() {
		w := write{at: at}
		copy(w.data[:], data)
		d.seen[at] = w.data
		d.waiting = append(d.waiting, w)
	})
}

// Flush makes all that was written safe (P4).
func (d *Disk) Flush() error {
	return d.operate(func() {
		for _, w := range d.waiting {
			d.safe[w.at] = w.data
		}
		d.forget()
	})
}

// Fuse lets the disk go down later (P4).
func (d *Disk) Fuse(n int) {
	d.lock.Lock()
	defer d.lock.Unlock()
	d.fuse = max(n, 0)
}

// Crash loses what is not safe, but for those writes (P4).
func (d *Disk) Crash(keep ...int) {
	d.lock.Lock()
	defer d.lock.Unlock()
	for _, place := range keep {
		if place >= 0 && place < len(d.waiting) {
			w := d.waiting[place]
			d.safe[w.at] = w.data
		}
	}
	d.forget()
	d.fuse, d.down = 0, false
}

// Waiting tells how many writes are not safe (P4).
func (d *Disk) Waiting() int {
	d.lock.Lock()
	defer d.lock.Unlock()
	return len(d.waiting)
}

func (d *Disk) has(at int) bool { return at >= 0 && at < len(d.safe) }

// operate does an operation if the disk is up. All operations come through here, so that the fuse counts each of them once.
func (d *Disk) operate(do func()) error {
	d.lock.Lock()
	defer d.lock.Unlock()
	if d.fuse > 0 {
		d.fuse--
		d.down = d.down || d.fuse == 0
	}
	if d.down {
		return ErrDown
	}
	do()
	return nil
}

// forget lets go of what waited: from now on the safe sectors are the ones that are seen.
func (d *Disk) forget() {
	clear(d.seen)
	d.waiting = nil
}
