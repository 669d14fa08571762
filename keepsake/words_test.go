package keepsake_test

import (
	"errors"
	"math"
	"strings"
	"testing"

	"keepsake/keepsake"
	"keepsake/plain"
)

func reasons() []error {
	return []error{
		keepsake.ErrArg, keepsake.ErrDown, keepsake.ErrFormat, keepsake.ErrCorrupt, keepsake.ErrPath, keepsake.ErrNone,
		keepsake.ErrKind, keepsake.ErrAgain, keepsake.ErrBusy, keepsake.ErrMany, keepsake.ErrBig, keepsake.ErrFull,
	}
}

func TestReasonsAreApart(t *testing.T) {
	for i, e := range reasons() {
		if e == nil || e.Error() == "" {
			t.Fatalf("Words: reason %d has no text", i)
		}
		for j, other := range reasons() {
			if errors.Is(e, other) != (i == j) {
				t.Errorf("Words: reasons %d and %d are not apart", i, j)
			}
		}
	}
}

func TestFaultWrapsItsReason(t *testing.T) {
	for i, e := range reasons() {
		var err error = &keepsake.Fault{At: i, Err: e}
		if errors.Unwrap(err) != e {
			t.Errorf("Words: a Fault's Unwrap is not its Err: %v", e)
		}
		for j, other := range reasons() {
			if errors.Is(err, other) != (i == j) {
				t.Errorf("Words: a Fault of %v is or is not %v", e, other)
			}
		}
		var f *keepsake.Fault
		if !errors.As(err, &f) || f.At != i || f.Err != e {
			t.Errorf("Words: a Fault of %v is not found by errors.As", e)
		}
		if text := err.Error(); !strings.Contains(text, e.Error()) {
			t.Errorf("Words: a Fault's text, %q, does not tell %q", text, e.Error())
		}
	}
}

func TestFaultOfAnythingHasAText(t *testing.T) {
	for _, f := range []*keepsake.Fault{
		nil, {}, {At: math.MinInt}, {At: math.MaxInt, Err: keepsake.ErrCorrupt}, {At: 1, Err: &keepsake.Fault{}}, {Err: (*keepsake.Fault)(nil)}, {Err: errors.New("")},
	} {
		if f.Error() == "" {
			t.Errorf("Words: no text: %#v", f)
		}
		if f != nil && f.Unwrap() != f.Err || f == nil && f.Unwrap() != nil {
			t.Errorf("Words: Unwrap is not Err: %#v", f)
		}
	}
}

func TestReasonsAskedFromOutside(t *testing.T) {
	for k := range reasons() {
		if n, at, text := plain.Reason(k, false); n != k+1 || at != -1 || !text {
			t.Errorf("Words: reason %d: %d %d %v", k, n, at, text)
		}
		if n, at, text := plain.Reason(k, true); n != k+1 || at != 7 || !text {
			t.Errorf("Words: reason %d in a Fault: %d %d %v", k, n, at, text)
		}
	}
}
