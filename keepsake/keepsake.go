// Package keepsake: snapshots of trees of files, on a disk of sectors: see DOC.md.
package keepsake

import (
	"errors"
	"strconv"

	"keepsake/sums"
)

// Why something is refused: asked with errors.Is.
var (
	ErrArg     = errors.New("an argument that may not be")
	ErrDown    = errors.New("the disk is down")
	ErrFormat  = errors.New("no archive is there")
	ErrCorrupt = errors.New("damage")
	ErrPath    = errors.New("a path that may not be")
	ErrNone    = errors.New("it is not there")
	ErrKind    = errors.New("it is of the other kind")
	ErrAgain   = errors.New("it is there already")
	ErrBusy    = errors.New("it is not empty")
	ErrMany    = errors.New("no room in a directory")
	ErrBig     = errors.New("too many bytes")
	ErrFull    = errors.New("the disk is full")
)

// Fault is a reason and at which sector: asked with errors.As (for a *Fault).
type Fault struct {
	At  int
	Err error
}

func (f *Fault) Error() string {
	if f == nil {
		return "no fault"
	}
	place := "sector " + strconv.Itoa(f.At)
	if f.Err == nil {
		return place
	}
	return place + ": " + f.Err.Error()
}

func (f *Fault) Unwrap() error {
	if f == nil {
		return nil
	}
	return f.Err
}

// Info tells a snapshot (P10).
type Info struct {
	Number int
	Label  string
	Root   string
}

// Entry tells what stands in a directory (P11).
type Entry struct {
	Name string
	Dir  bool
	Size int
}

// Sum tells the 32 bytes of a text's SHA-256 (P3).
func Sum(text string) string {
	sum := sums.SHA256(text)
	return string(sum[:])
}

// CRC tells the CRC-32 of a text (P3).
func CRC(text string) uint32 { return sums.CRC32(text) }
