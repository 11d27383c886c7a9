package tiles_test

import (
	"bytes"
	"errors"
	"fmt"
	"slices"
	"strings"
	"testing"

	"tiles/api"
	"tiles/tiles"
)

// P11 and P15, where a call of the store answers an error.

// wantTold: the error is a PathError of just what the shelf answered to its at-th call, at the path of that call, and no call came behind it.
func wantTold(t *testing.T, what string, s *shelf, at int, err error) {
	t.Helper()
	if len(s.calls) != at {
		t.Fatalf("P15: %s: the store is called again: %q", what, s.calls[at-1:])
	}
	_, path, _ := strings.Cut(s.calls[at-1], " ")
	if !isPathError(err, path, s.told) {
		t.Fatalf("P15: %s: the error is %v, want %v at %s", what, err, s.told, path)
	}
}

// wantOpenToFail: Open fails at each of its calls in turn, and behind that it answers as it does over a store that never failed.
func wantOpenToFail(t *testing.T, what string, s *shelf, f fault) {
	t.Helper()
	before := s.again()
	right, rightErr := tiles.Open(s.again(), "k")
	for at := 1; ; at++ {
		s.fail(at, f)
		l, err := tiles.Open(s, "k")
		if len(s.calls) < at {
			return
		}
		if l != nil {
			t.Errorf("P11: %s, %+v at call %d: there is a publisher", what, f, at)
		}
		wantTold(t, fmt.Sprintf("Open, %s, %+v", what, f), s, at, err)
		s.mend()
		l, err = tiles.Open(s, "k")
		if l.Size() != right.Size() || fmt.Sprint(err) != fmt.Sprint(rightErr) || !s.sameFiles(before) {
			t.Errorf("P11: %s, behind %+v at call %d: %d entries, %v, want %d, %v", what, f, at, l.Size(), err, right.Size(), rightErr)
		}
	}
}

func TestOpenOverAStoreThatFails(t *testing.T) {
	for _, f := range faults() {
		wantOpenToFail(t, "nothing there", newShelf(), f)
		wantOpenToFail(t, "only bundles there", newShelf(wantBundles(someEntries(9))...), f)
		for _, n := range []int{0, 1, 3, 4, 5, 8, 11} {
			for _, behind := range []int{0, 1, 2, 4, 6} {
				s := shelfOf(someEntries(n), "k")
				s.lay(wantBundles(someEntries(n + behind)))
				wantOpenToFail(t, fmt.Sprintf("%d entries and %d behind the checkpoint", n, behind), s, f)
			}
		}
	}
}

// What is wrong further on is not reached.
func TestOpenOverAStoreThatFailsAheadOfWhatIsWrong(t *testing.T) {
	for _, f := range faults() {
		s := shelfOf(someEntries(11), "k")
		s.lay([]file{{"entries/1", "-"}})
		wantOpenToFail(t, "a broken bundle", s, f)
		s = shelfOf(someEntries(11), "k")
		s.lay([]file{{"entries/2.p/3", string(wantBundle(textEntries("1", "2", "3")))}})
		wantOpenToFail(t, "other entries", s, f)
		s.lay([]file{{"checkpoint", "-"}})
		wantOpenToFail(t, "a broken checkpoint", s, f)
	}
}

func TestOpenTellsThePathOfTheCallThatFailed(t *testing.T) {
	s := shelfOf(someEntries(9), "k")
	for at, path := range []string{"checkpoint", "entries/0", "entries/1", "entries/2.p/1", "entries/2", "entries/2.p/3", "entries/2.p/2"} {
		s.fail(at+1, fault{})
		if l, err := tiles.Open(s, "k"); l != nil || !isPathError(err, path, s.told) {
			t.Errorf("P11: Open over a store that fails at call %d = %v, %v, want an error at %s", at+1, l, err, path)
		}
	}
}

// beginning is a store and a publisher over it that has all entries, of which the first n are published.
type beginning struct {
	what  string
	begin func(t *testing.T, entries [][]byte, n int) (*shelf, *tiles.Log)
}

func beginnings() []beginning {
	return []beginning{
		{"the publisher of what is published", func(t *testing.T, entries [][]byte, n int) (*shelf, *tiles.Log) {
			s := newShelf()
			l := mustOpen(t, s, "k")
			mustAppend(t, l, entries[:n])
			mustPublish(t, l)
			mustAppend(t, l, entries[n:])
			return s, l
		}},
		{"a publisher opened anew", func(t *testing.T, entries [][]byte, n int) (*shelf, *tiles.Log) {
			s := shelfOf(entries[:n], "k")
			l := mustOpen(t, s, "k")
			mustAppend(t, l, entries[n:])
			return s, l
		}},
		{"a publisher that has taken entries in again", func(t *testing.T, entries [][]byte, n int) (*shelf, *tiles.Log) {
			s := shelfOf(entries[:n], "k")
			s.lay(wantBundles(entries[:n+(len(entries)-n)/2]))
			l := mustOpen(t, s, "k")
			mustAppend(t, l, entries[l.Size():])
			return s, l
		}},
		{"the first publisher", func(t *testing.T, entries [][]byte, n int) (*shelf, *tiles.Log) {
			s := newShelf()
			l := mustOpen(t, s, "k")
			mustAppend(t, l, entries)
			return s, l
		}},
	}
}

func TestPublishOverAStoreThatFails(t *testing.T) {
	for _, b := range beginnings() {
		for _, f := range faults() {
			for _, n := range []int{0, 1, 3, 4, 5, 15, 16} {
				for _, more := range []int{0, 1, 2, 4, 5, 13} {
					for at := 1; wantPublishToFail(t, b, someEntries(n+more), n, at, f); at++ {
					}
				}
			}
		}
	}
}

// wantPublishToFail: Publish fails at that call, if it makes so many.
func wantPublishToFail(t *testing.T, b beginning, entries [][]byte, n, at int, f fault) bool {
	t.Helper()
	what := fmt.Sprintf("%s, %d of %d entries published, %+v at call %d", b.what, n, len(entries), f, at)
	s, l := b.begin(t, entries, n)
	before := s.again()
	s.fail(at, f)
	size, err := l.Publish()
	if len(s.calls) < at {
		if size != len(entries) || err != nil {
			t.Errorf("P14: %s: Publish = %d, %v without a call that fails", what, size, err)
		}
		return false
	}
	if size != 0 {
		t.Errorf("P15: %s: Publish = %d beside an error", what, size)
	}
	wantTold(t, "Publish, "+what, s, at, err)
	wantFailed(t, l, len(entries))
	s.mend()
	wantFailed(t, l, len(entries))
	wantTold(t, "Publish, and calls behind it, "+what, s, at, err)
	wantKept(t, what, s, before)
	wantOpenedAnew(t, what, s, before, entries)
	return true
}

// wantKept: of the files that there were none has changed but the checkpoint, and none was to be put with other bytes.
func wantKept(t *testing.T, what string, s, before *shelf) {
	t.Helper()
	for path, data := range before.files {
		if path != "checkpoint" && !bytes.Equal(s.files[path], data) {
			t.Errorf("P15: %s: %s has changed from %q to %q", what, path, data, s.files[path])
		}
	}
	if len(s.turned) > 0 {
		t.Errorf("P15: %s: put with other bytes: %q", what, s.turned)
	}
}

// wantWhole: the checkpoint is there as that of entries, and all files that it needs.
func wantWhole(t *testing.T, what string, s *shelf, entries [][]byte) {
	t.Helper()
	for path, data := range shelfOf(entries, "k").files {
		if !bytes.Equal(s.files[path], data) {
			t.Errorf("P15: %s: %s = %q, want %q", what, path, s.files[path], data)
		}
	}
}

// wantPublished: the checkpoint, if there is one, is as it was or that of all entries, and whole; the answer is how many entries it has.
func wantPublished(t *testing.T, what string, s, before *shelf, entries [][]byte) int {
	t.Helper()
	text, ok := s.files["checkpoint"]
	old, was := before.files["checkpoint"]
	if ok == was && bytes.Equal(text, old) {
		if !was {
			return 0
		}
		published, _ := tiles.Check(string(old), "k")
		wantWhole(t, what, s, entries[:published.Size])
		return published.Size
	}
	wantWhole(t, what, s, entries)
	return len(entries)
}

// wantOpenedAnew: what a Publish of entries that failed has left is a log, with which one can go on, also with other entries.
func wantOpenedAnew(t *testing.T, what string, s, before *shelf, entries [][]byte) {
	t.Helper()
	published := wantPublished(t, what, s, before, entries)
	for _, others := range []int{0, 1, 2, 6} {
		left, again := s.again(), s.again()
		l := mustOpen(t, again, "k")
		size := l.Size()
		if size < published || size > len(entries) {
			t.Fatalf("P15: %s: opened anew, there are %d entries, published are %d", what, size, published)
		}
		list := slices.Clone(entries[:size])
		for i := range others {
			list = append(list, fmt.Appendf(nil, "other %d", i))
		}
		mustAppend(t, l, list[size:])
		mustPublish(t, l)
		wantKept(t, what+", and opened anew", again, left)
		wantWhole(t, what+", and opened anew", again, list)
	}
}

// Each publisher has other entries behind those that it found, and fails somewhere; now and then one does not fail.
func TestPublishersThatFailAgainAndAgain(t *testing.T) {
	for _, f := range faults() {
		for step := 1; step < 14; step++ {
			s := newShelf()
			var entries [][]byte // of the last publisher
			published := 0
			for turn := range 40 {
				what := fmt.Sprintf("%+v, step %d, turn %d", f, step, turn)
				l := mustOpen(t, s, "k")
				if l.Size() < published || l.Size() > len(entries) {
					t.Fatalf("P15: %s: there are %d entries, published are %d of %d", what, l.Size(), published, len(entries))
				}
				entries = slices.Clone(entries[:l.Size()])
				for i := range turn % 6 {
					entries = append(entries, fmt.Appendf(nil, "%d in turn %d", i, turn))
				}
				mustAppend(t, l, entries[l.Size():])
				before := s.again()
				s.fail(turn*step%15+1, f)
				l.Publish()
				s.mend()
				wantKept(t, what, s, before)
				published = wantPublished(t, what, s, before, entries)
			}
		}
	}
}

// A publisher may also fail behind many that went well.
func TestPublishThatFailsLater(t *testing.T) {
	for _, f := range faults() {
		s := newShelf()
		l := mustOpen(t, s, "k")
		for n := range 22 {
			mustAppend(t, l, someEntries(n + 1)[n:])
			mustPublish(t, l)
		}
		before := s.again()
		s.fail(1, f)
		size, err := l.Publish()
		if size != 0 || s.calls[0] != "swap checkpoint" {
			t.Errorf("P15: Publish of nothing new = %d, the calls are %q", size, s.calls)
		}
		wantTold(t, "Publish of nothing new", s, 1, err)
		s.mend()
		wantFailed(t, l, 22)
		wantKept(t, "Publish of nothing new", s, before)
		wantOpenedAnew(t, "Publish of nothing new", s, before, someEntries(22))
	}
}

// strangeErrors: a store may answer any error, also those that the program has a use for.
func strangeErrors() []error {
	var none *shelfError
	return []error{
		api.ErrTile, api.ErrFailed, api.ErrCheckpoint, api.ErrProof, api.ErrOld, api.ErrEntry, api.ErrRange, none,
		&api.PathError{Path: "entries/0", Err: api.ErrTile}, &api.PathError{}, errors.Join(api.ErrTile, api.ErrFailed), fmt.Errorf("here: %w", api.ErrTile),
	}
}

func TestOpenOverAStoreWithStrangeErrors(t *testing.T) {
	for _, strange := range strangeErrors() {
		s := shelfOf(someEntries(5), "k")
		s.lay(wantBundles(someEntries(7)))
		s.says = strange
		wantOpenToFail(t, fmt.Sprintf("%#v", strange), s, fault{once: true})
	}
}

func TestPublishOverAStoreWithStrangeErrors(t *testing.T) {
	for _, strange := range strangeErrors() {
		for _, b := range beginnings() {
			b := beginning{b.what, func(t *testing.T, entries [][]byte, n int) (*shelf, *tiles.Log) {
				s, l := b.begin(t, entries, n)
				s.says = strange
				return s, l
			}}
			for at := 1; wantPublishToFail(t, b, someEntries(7), 2, at, fault{once: true}); at++ {
			}
		}
	}
}
