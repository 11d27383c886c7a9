package tiles_test

import (
	"bytes"
	"errors"
	"maps"
	"slices"
	"testing"

	"tiles/api"
	"tiles/tiles"
)

// shelf is a store that notes how it is called. It hands out its own memory, and spoils what it was handed, as a store may.
type shelf struct {
	files  map[string][]byte
	calls  []string
	turned []string // files that were to be put with other bytes than they have
	failAt int      // the call that fails (1, 2 ..); 0: none
	fault  fault
	says   error // what it answers if it fails; nil: another shelfError for each call
	told   error // the last error that it answered
}

// fault is a way in which a store can fail.
type fault struct {
	once bool // only that call fails, and none behind it
	done bool // what that call was to do is done all the same
}

func faults() []fault { return []fault{{}, {done: true}, {once: true}, {once: true, done: true}} }

// shelfError has a number, so that no two calls answer the same error.
type shelfError struct{ call int }

func (e *shelfError) Error() string { return "the shelf has fallen" }

func newShelf(files ...file) *shelf {
	s := &shelf{files: map[string][]byte{}}
	s.lay(files)
	return s
}

// shelfOf is what a publisher of entries leaves.
func shelfOf(entries [][]byte, key string) *shelf {
	s := newShelf(slices.Concat(wantBundles(entries), wantTiles(entries))...)
	s.files["checkpoint"] = []byte(wantCheckpoint(entries, key))
	return s
}

// fail has the at-th call from now on fail.
func (s *shelf) fail(at int, f fault) { s.calls, s.failAt, s.fault = nil, at, f }

func (s *shelf) mend() { s.failAt = 0 }

// lay lays files down beside those that there are.
func (s *shelf) lay(files []file) {
	for _, f := range files {
		s.files[f.path] = []byte(f.data)
	}
}

// enter: whether the call is to be done, and its error.
func (s *shelf) enter(call string) (bool, error) {
	s.calls = append(s.calls, call)
	n := len(s.calls)
	if s.failAt == 0 || n < s.failAt || n > s.failAt && s.fault.once {
		return true, nil
	}
	s.told = s.says
	if s.says == nil {
		s.told = &shelfError{n}
	}
	return s.fault.done && n == s.failAt, s.told
}

func (s *shelf) Put(path string, data []byte) error {
	do, err := s.enter("put " + path)
	if old, ok := s.files[path]; ok && !bytes.Equal(old, data) {
		s.turned = append(s.turned, path)
		return errors.New("other bytes stand there")
	}
	if do {
		s.files[path] = bytes.Clone(data)
	}
	clear(data[:cap(data)])
	return err
}

func (s *shelf) Swap(path string, data []byte) error {
	do, err := s.enter("swap " + path)
	if do {
		s.files[path] = bytes.Clone(data)
	}
	clear(data[:cap(data)])
	return err
}

func (s *shelf) Get(path string) ([]byte, error) {
	do, err := s.enter("get " + path)
	if !do {
		return nil, err
	}
	return s.files[path], err
}

// again is the shelf as a new publisher finds it.
func (s *shelf) again() *shelf {
	n := newShelf()
	for path, data := range s.files {
		n.files[path] = append([]byte{}, data...)
	}
	return n
}

func (s *shelf) sameFiles(other *shelf) bool {
	return maps.EqualFunc(s.files, other.files, bytes.Equal)
}

func mustOpen(t *testing.T, s api.Store, key string) *tiles.Log {
	t.Helper()
	l, err := tiles.Open(s, key)
	if l == nil || err != nil {
		t.Fatalf("P11: Open = %v, %v", l, err)
	}
	return l
}

func mustAppend(t *testing.T, l *tiles.Log, entries [][]byte) {
	t.Helper()
	for _, e := range entries {
		want := l.Size()
		if i, err := l.Append(e); i != want || err != nil {
			t.Fatalf("P13: Append(%q) = %d, %v, want %d", e, i, err, want)
		}
	}
}

func mustPublish(t *testing.T, l *tiles.Log) {
	t.Helper()
	if n, err := l.Publish(); n != l.Size() || err != nil {
		t.Fatalf("P14: Publish = %d, %v, want %d", n, err, l.Size())
	}
}

// wantNoLog: Open answers just that error, by itself.
func wantNoLog(t *testing.T, s api.Store, key string, want error) {
	t.Helper()
	if l, err := tiles.Open(s, key); l != nil || err != want {
		t.Errorf("P11: Open = %v, %v, want %v", l, err, want)
	}
}

// isPathError: just a PathError of that error at that path.
func isPathError(err error, path string, want error) bool {
	p, ok := err.(*api.PathError)
	return ok && p.Path == path && p.Err == want && errors.Is(err, want)
}

func wantBrokenAt(t *testing.T, s api.Store, key, path string) {
	t.Helper()
	if l, err := tiles.Open(s, key); l != nil || !isPathError(err, path, api.ErrTile) {
		t.Errorf("P11: Open = %v, %v, want ErrTile at %s", l, err, path)
	}
}

func wantFailed(t *testing.T, l *tiles.Log, size int) {
	t.Helper()
	if i, err := l.Append([]byte("x")); i != 0 || err != api.ErrFailed {
		t.Errorf("P13: Append to a publisher that has failed = %d, %v", i, err)
	}
	if i, err := l.Append(nil); i != 0 || err != api.ErrFailed {
		t.Errorf("P13: Append of nil to a publisher that has failed = %d, %v", i, err)
	}
	if i, err := l.Append(make([]byte, 21)); i != 0 || err != api.ErrEntry {
		t.Errorf("P13: Append of 21 bytes to a publisher that has failed = %d, %v", i, err)
	}
	if n, err := l.Publish(); n != 0 || err != api.ErrFailed {
		t.Errorf("P14: Publish of a publisher that has failed = %d, %v", n, err)
	}
	if l.Size() != size {
		t.Errorf("P12: a publisher that has failed has %d entries, want %d", l.Size(), size)
	}
}
