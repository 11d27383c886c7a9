package tiles_test

import (
	"bytes"
	"errors"
	"fmt"
	"math"
	"slices"
	"strings"
	"testing"

	"tiles/api"
	"tiles/tiles"
)

// P1

func wildNumbers() []int {
	out := []int{math.MinInt, math.MinInt + 1, math.MinInt / 2, math.MaxInt/2 - 1, math.MaxInt / 2, math.MaxInt/2 + 1, math.MaxInt/2 + 2, math.MaxInt - 1, math.MaxInt}
	for i := -3; i < 12; i++ {
		out = append(out, i)
	}
	return out
}

func TestChecksOfWildNumbersEnd(t *testing.T) {
	h := wantHash(1)
	for _, length := range []int{0, 1, 2, 3, 61, 62, 63, 64, 65, 1 << 16} {
		proof := someHashes(length)
		for _, one := range wildNumbers() {
			for _, other := range wildNumbers() {
				if tiles.Included(h, one, other, proof, api.Hash{}) {
					t.Errorf("P1: Included of %d of %d with %d strange hashes is true", one, other, length)
				}
				if tiles.Consistent(one, other, h, api.Hash{}, proof) {
					t.Errorf("P1: Consistent of %d of %d with %d strange hashes is true", one, other, length)
				}
			}
		}
	}
}

func TestProofsOfWildNumbersEnd(t *testing.T) {
	for _, list := range [][][]byte{nil, {}, {nil}, {nil, nil}, {{}, nil, {0}}, someEntries(11), make([][]byte, 1000)} {
		tiles.Root(list)
		for _, i := range wildNumbers() {
			path, err := tiles.Path(list, i)
			inside := i >= 0 && i < len(list)
			if inside != (err == nil) || !inside && path != nil {
				t.Errorf("P1: Path of %d of %d = %x, %v", i, len(list), path, err)
			}
			proof, err := tiles.Proof(list, i)
			inside = i >= 1 && i <= len(list)
			if inside != (err == nil) || !inside && proof != nil {
				t.Errorf("P1: Proof of %d of %d = %x, %v", i, len(list), proof, err)
			}
		}
	}
}

func TestFilesOfWildTextsEnd(t *testing.T) {
	for _, piece := range []string{"0", "9", "a", "/", ".p/", "\n", "\x00", "\xff", "tile/", "entries/", "tiles\n"} {
		for _, times := range []int{1, 2, 3, 4, 5, 1 << 16} {
			long := strings.Repeat(piece, times)
			for _, text := range []string{long, "tile/" + long, "tile/0/" + long + "x", "entries/" + long + "x", "entries/0.p/" + long + "x", "tiles\n0\n" + long} {
				if l, i, w, ok := tiles.Parse(text); (l != 0 || i != 0 || w != 0) && !ok {
					t.Errorf("P1: Parse of %d times %q = %d, %d, %d, false", times, piece, l, i, w)
				}
				if got, ok := tiles.Check(text, long); ok || got != (api.Trusted{}) {
					t.Errorf("P1: Check of %d times %q = %v, %v", times, piece, got, ok)
				}
				if got, ok := tiles.Unbundle([]byte(text)); !ok && got != nil {
					t.Errorf("P1: Unbundle of %d times %q = %q, false", times, piece, got)
				}
			}
		}
	}
}

func TestSignOfWildNumbersEnds(t *testing.T) {
	for _, size := range wildNumbers() {
		text := tiles.Sign(api.Trusted{Size: size}, "k")
		got, ok := tiles.Check(text, "k")
		if ok != (size >= 0) || got.Size != max(size, 0) || got.Root != (api.Hash{}) {
			t.Errorf("P1: Check(%q) = %v, %v", text, got, ok)
		}
	}
}

// wildStore answers as it likes: one text to every Get (nil: what is there), or a panic.
type wildStore struct {
	shelf
	text   []byte
	panics string // the call that panics
}

func (s *wildStore) Put(path string, data []byte) error {
	if s.panics == "put" {
		panic("put")
	}
	return s.shelf.Put(path, data)
}

func (s *wildStore) Swap(path string, data []byte) error {
	if s.panics == "swap" {
		panic(nil)
	}
	return s.shelf.Swap(path, data)
}

func (s *wildStore) Get(path string) ([]byte, error) {
	if s.panics == "get" || s.panics == "get "+path {
		panic(api.ErrTile)
	}
	if s.text != nil {
		return s.text, nil
	}
	return s.shelf.Get(path)
}

func TestOpenOverAStoreWithOneAnswer(t *testing.T) {
	for _, c := range []struct {
		text string
		size int
		want error
	}{
		{"", 0, api.ErrCheckpoint},
		{"\x00\x00\x00\x00", 0, api.ErrCheckpoint},
		{strings.Repeat("x", 1<<20), 0, api.ErrCheckpoint},
		{wantCheckpoint(nil, "k"), 0, nil},
		{wantCheckpoint(someEntries(3), "k"), 0, api.ErrTile},
		{signed(fmt.Sprintf("tiles\n%d\n%x\n", math.MaxInt, wantRoot(nil)), "k"), 0, api.ErrTile},
	} {
		l, err := tiles.Open(&wildStore{text: []byte(c.text)}, "k")
		if !errors.Is(err, c.want) || (l == nil) != (err != nil) || l.Size() != c.size {
			t.Errorf("P1: Open over a store that says only %.50q = %v, %v, want %v", c.text, l, err, c.want)
		}
	}
}

func TestStoresThatPanic(t *testing.T) {
	for _, call := range []string{"get", "get checkpoint", "get entries/0", "get entries/1.p/1", "get entries/1"} {
		wantNoLog(t, &wildStore{shelf: *shelfOf(someEntries(5), "k"), panics: call}, "k", api.ErrFailed)
	}
	for _, call := range []string{"put", "swap"} {
		l := mustOpen(t, &wildStore{shelf: *shelfOf(someEntries(5), "k"), panics: call}, "k")
		if n, err := l.Publish(); n != 0 || err != api.ErrFailed {
			t.Errorf("P1: Publish over a store that panics = %d, %v", n, err)
		}
		wantFailed(t, l, 5)
	}
	var none *shelf
	wantNoLog(t, none, "k", api.ErrFailed)
}

// onceStore has every file only until it was asked for.
type onceStore struct{ shelf }

func (s *onceStore) Get(path string) ([]byte, error) {
	data, err := s.shelf.Get(path)
	delete(s.files, path)
	return data, err
}

func TestOpenOverAStoreThatForgets(t *testing.T) {
	for n := range 10 {
		s := &onceStore{*shelfOf(someEntries(n), "k")}
		for width := 1; width < n%4; width++ {
			s.files[wantName(-1, n/4, width)] = wantBundle(someEntries(width))
		}
		if l := mustOpen(t, s, "k"); l.Size() != n {
			t.Errorf("P1: over a store that forgets there are %d entries, want %d", l.Size(), n)
		}
	}
}

func TestPublishersThatWereNotOpened(t *testing.T) {
	wantFailed(t, nil, 0)
	wantFailed(t, &tiles.Log{}, 0)
}

// wildRoad answers as it likes: one answer to everything (nil: what is there), or a panic.
type wildRoad struct {
	road
	text   []byte
	panics string // the path at which it panics
}

func (r *wildRoad) Fetch(path string) ([]byte, error) {
	if r.panics == path {
		panic(api.ErrTile)
	}
	if r.text != nil {
		return r.text, nil
	}
	return r.road.Fetch(path)
}

func TestClientsThatWereNotMade(t *testing.T) {
	for _, c := range []*tiles.Client{nil, {}} {
		wantTrusted(t, "not made", c, api.Trusted{})
		wantNoUpdate(t, "not made", c, api.ErrCheckpoint)
		for _, i := range wildNumbers() {
			wantNoRead(t, "not made", c, i, api.ErrRange)
		}
	}
}

func TestTransportsThatPanic(t *testing.T) {
	entries := someEntries(23)
	var none *road
	wantNoUpdate(t, "with a transport that is nil within", tiles.NewClient(none, "k", 16), api.ErrCheckpoint)
	r := &wildRoad{road: *roadTo(entries)}
	c := tiles.NewClient(r, "k", 16)
	r.panics = "checkpoint"
	wantNoUpdate(t, "which panics", c, api.ErrCheckpoint)
	r.panics = ""
	wantUpdate(t, "behind a panic", c, entries, nil)
	for i := range entries {
		for _, path := range neededBy(t, entries, i) {
			c := tiles.NewClient(r, "k", 16)
			c.Update()
			r.panics = path
			wantNoReadAt(t, "with a transport that panics", c, i, path)
			r.panics = ""
			wantRead(t, "behind a panic", c, entries, i)
		}
	}
}

func TestTransportsThatPanicAtOneOfTwoNames(t *testing.T) {
	entries := someEntries(7)
	r := &wildRoad{road: *roadTo(entries)}
	r.lay(shelfOf(someEntries(8), "k").files)
	r.panics = "entries/1.p/3"
	c := tiles.NewClient(r, "k", 16)
	c.Update()
	wantRead(t, "with a panic at the first name", c, entries, 5)
	r.panics = "entries/1"
	delete(r.files, "entries/1.p/3")
	c = tiles.NewClient(r, "k", 16)
	c.Update()
	wantNoReadAt(t, "with a panic at the second name", c, 5, "entries/1.p/3")
}

func TestTransportsWithOneAnswer(t *testing.T) {
	for _, n := range wildNumbers() {
		if n < 1 {
			continue
		}
		r := &wildRoad{text: []byte(signed(fmt.Sprintf("tiles\n%d\n%x\n", n, wantHash()), "k"))}
		c := tiles.NewClient(r, "k", 16)
		for range 2 {
			if proof, err := c.Update(); len(proof) != 0 || err != nil {
				t.Errorf("P1: Update to %d = %x, %v", n, proof, err)
			}
			for _, i := range wildNumbers() {
				if i >= 0 && i < n {
					wantNoReadAt(t, "with one answer", c, i, wantName(-1, i/4, min(n-i/4*4, 4)))
				} else {
					wantNoRead(t, "with one answer", c, i, api.ErrRange)
				}
			}
		}
	}
	for _, text := range []string{"", "\x00", strings.Repeat("\x00", 32), strings.Repeat("x", 1<<20)} {
		c := tiles.NewClient(&wildRoad{text: []byte(text)}, "k", 16)
		wantNoUpdate(t, "with one answer", c, api.ErrCheckpoint)
	}
}

// smooth answers to every path with what has its form.
type smooth struct {
	size    int
	fetches int
}

func (s *smooth) Fetch(path string) ([]byte, error) {
	s.fetches++
	if path == "checkpoint" {
		return []byte(signed(fmt.Sprintf("tiles\n%d\n%x\n", s.size, wantHash(byte(s.size))), "k")), nil
	}
	level, _, width, ok := tiles.Parse(path)
	switch {
	case !ok:
		return nil, errLost
	case level < 0:
		return make([]byte, width), nil
	}
	return make([]byte, 8*width), nil
}

func TestTransportsThatAnswerEverythingEnd(t *testing.T) {
	for _, m := range wildNumbers() {
		for _, n := range wildNumbers() {
			if m < 1 || n <= m {
				continue
			}
			s := &smooth{size: m}
			c := tiles.NewClient(s, "k", 16)
			c.Update()
			s.size = n
			before := c.Trusted()
			if proof, err := c.Update(); proof != nil || !isUnproved(err) {
				t.Errorf("P1: Update from %d to %d = %x, %v", m, n, proof, err)
			}
			wantTrusted(t, "with lies in the right form", c, before)
			for _, i := range []int{0, 1, m / 3, m / 2, m - 2, m - 1} {
				if i < 0 || i >= m {
					continue
				}
				if entry, path, err := c.Read(i); entry != nil || path != nil || !isUnproved(err) {
					t.Errorf("P1: Read(%d) of %d = %q, %x, %v", i, m, entry, path, err)
				}
			}
			if s.fetches > 1000 {
				t.Errorf("P1: %d fetches at the sizes %d and %d", s.fetches, m, n)
			}
		}
	}
}

// isUnproved: ErrProof, or, at levels that have no files, ErrTile.
func isUnproved(err error) bool { return err == api.ErrProof || isPathError(err, "", api.ErrTile) }

// P2

// roomy copies entries into lists with room behind their ends, where a stray append would write.
func roomy(entries [][]byte) [][]byte {
	out := make([][]byte, 0, len(entries)+4)
	for _, e := range entries {
		out = append(out, append(make([]byte, 0, len(e)+4), e...))
	}
	return out
}

func sameWithRoom(a, b [][]byte) bool {
	return slices.EqualFunc(a[:cap(a)], b[:cap(b)], func(x, y []byte) bool {
		return bytes.Equal(x[:cap(x)], y[:cap(y)])
	})
}

func TestEntriesAreNotWrittenInto(t *testing.T) {
	for n := 1; n < 20; n++ {
		given, before := roomy(someEntries(n)), roomy(someEntries(n))
		tiles.Root(given)
		tiles.Leaf(given[0])
		for i := range n {
			tiles.Path(given, i)
			tiles.Proof(given, i+1)
		}
		if !sameWithRoom(given, before) {
			t.Errorf("P2: %d entries were written into", n)
		}
	}
}

func TestProofsAreNotWrittenInto(t *testing.T) {
	list := someEntries(13)
	root := wantRoot(list)
	for i := range list {
		path := append(wantPath(list, i), someHashes(4)...)
		proof := append(wantProof(list, i+1), someHashes(4)...)
		pathBefore, proofBefore := slices.Clone(path), slices.Clone(proof)
		tiles.Included(wantLeaf(list[i]), i, 13, path[:len(path)-4], root)
		tiles.Consistent(i+1, 13, wantRoot(list[:i+1]), root, proof[:len(proof)-4])
		if !slices.Equal(path, pathBefore) || !slices.Equal(proof, proofBefore) {
			t.Errorf("P2: the path of %d or the proof of %d was written into", i, i+1)
		}
	}
}

func TestWhatComesOutIsTheCallers(t *testing.T) {
	list := someEntries(13)
	for i := range list {
		for _, ask := range []func() ([]api.Hash, error){
			func() ([]api.Hash, error) { return tiles.Path(list, i) },
			func() ([]api.Hash, error) { return tiles.Proof(list, i+1) },
		} {
			first, _ := ask()
			second, _ := ask()
			kept := slices.Clone(second)
			clear(first[:cap(first)])
			third, _ := ask()
			if !slices.Equal(second, kept) || !slices.Equal(third, kept) {
				t.Errorf("P2: two answers about %d share memory", i)
			}
		}
	}
}

func TestNothingIsKept(t *testing.T) {
	list := someEntries(13)
	path, _ := tiles.Path(list, 6)
	proof, _ := tiles.Proof(list, 6)
	wantedPath, wantedProof := wantPath(list, 6), wantProof(list, 6)
	for i := range list {
		clear(list[i])
	}
	if !slices.Equal(path, wantedPath) || !slices.Equal(proof, wantedProof) {
		t.Error("P2: an answer has changed with what was handed in")
	}
	if tiles.Root(list) != wantRoot(list) {
		t.Error("P2: a root is that of entries handed in earlier")
	}
}

func TestFilesAreNotWrittenInto(t *testing.T) {
	for n := range 6 {
		given, before := roomy(someEntries(n)), roomy(someEntries(n))
		data := tiles.Bundle(given)
		if !sameWithRoom(given, before) {
			t.Errorf("P2: Bundle has written into %d entries", n)
		}
		given, before = roomy([][]byte{data}), roomy([][]byte{data})
		tiles.Unbundle(given[0])
		if !sameWithRoom(given, before) {
			t.Errorf("P2: Unbundle has written into a bundle of %d", n)
		}
	}
}

func TestBundlesAreTheCallers(t *testing.T) {
	for n := 1; n <= 4; n++ {
		entries := someEntries(n)
		data := tiles.Bundle(entries)
		other := tiles.Bundle(entries)
		clear(other[:cap(other)])
		for i := range entries {
			clear(entries[i])
		}
		if !bytes.Equal(data, wantBundle(someEntries(n))) {
			t.Errorf("P2: a bundle of %d shares memory: %q", n, data)
		}
	}
}

func TestUnbundledEntriesAreTheCallers(t *testing.T) {
	for n := 1; n <= 4; n++ {
		data := wantBundle(someEntries(n))
		first, _ := tiles.Unbundle(data)
		second, _ := tiles.Unbundle(data)
		for i := range first {
			clear(first[i][:cap(first[i])])
		}
		if !sameEntries(second, someEntries(n)) || !bytes.Equal(data, wantBundle(someEntries(n))) {
			t.Errorf("P2: the entries of a bundle of %d share memory with it or with others", n)
		}
		clear(data)
		for i := range second {
			want := someEntries(n)[i]
			if !bytes.Equal(second[i], want) {
				t.Errorf("P2: entry %d of %d shares memory: %q", i, n, second[i])
			}
			clear(second[i][:cap(second[i])])
		}
	}
}

func TestEntriesThatAreAppendedAreNotKeptOrWrittenInto(t *testing.T) {
	s := newShelf()
	l := mustOpen(t, s, "k")
	for n := range 9 {
		given, before := roomy(someEntries(n+1)), roomy(someEntries(n+1))
		mustAppend(t, l, given[n:])
		if n%3 == 0 {
			mustPublish(t, l)
		}
		if !sameWithRoom(given, before) {
			t.Errorf("P2: Append or Publish has written into entry %d", n)
		}
		clear(given[n][:cap(given[n])])
	}
	mustPublish(t, l)
	for path, data := range shelfOf(someEntries(9), "k").files {
		if !bytes.Equal(s.files[path], data) {
			t.Errorf("P2: with entries changed behind Append, %s = %q, want %q", path, s.files[path], data)
		}
	}
}

func TestWhatAStoreHandsOutIsNotKeptOrWrittenInto(t *testing.T) {
	for n := range 10 {
		s := shelfOf(someEntries(n), "k")
		s.lay(wantBundles(someEntries(n + 6)))
		before := s.again()
		l := mustOpen(t, s, "k")
		handedOut := s.files
		s.files = s.again().files
		for _, data := range handedOut {
			clear(data[:cap(data)])
		}
		mustAppend(t, l, someEntries(n + 7)[n+6:])
		mustPublish(t, l)
		for path, data := range before.files {
			if path != "checkpoint" && !bytes.Equal(s.files[path], data) {
				t.Errorf("P2: %s has changed: %q, was %q", path, s.files[path], data)
			}
		}
		for path, data := range shelfOf(someEntries(n+7), "k").files {
			if !bytes.Equal(s.files[path], data) {
				t.Errorf("P2: opened at %d, %s = %q, want %q", n, path, s.files[path], data)
			}
		}
	}
}

func TestWhatATransportHandsOutIsNotKeptOrWrittenInto(t *testing.T) {
	entries := someEntries(55)
	for _, capacity := range []int{0, 2, 16, 1000} {
		r := roadTo(entries[:1])
		c := clientAt(t, r, capacity)
		for n := 2; n <= 55; n += 1 + n/7 {
			older := c.Trusted().Size
			r.grow(entries[:n])
			wantUpdate(t, "over memory that changes", c, entries[:n], wantProof(entries[:n], older))
			r.spoil()
			for _, i := range someOf(n) {
				wantRead(t, "over memory that changes", c, entries[:n], i)
				r.spoil()
				wantRead(t, "over memory that has changed", c, entries[:n], i)
			}
		}
		r.spoil()
		if len(r.written) > 0 {
			t.Errorf("P2: what came from %q was written into", r.written)
		}
	}
}

func TestWhatAClientAnswersIsTheCallers(t *testing.T) {
	entries := someEntries(55)
	for _, capacity := range []int{0, 16, 1000} {
		r := roadTo(nil)
		c := clientFrom(t, r, entries[:6], entries, capacity)
		proof, _ := c.Update()
		clear(proof[:cap(proof)])
		for i := range entries {
			entry, path, _ := c.Read(i)
			other, otherPath, _ := c.Read(i)
			clear(entry[:cap(entry)])
			clear(path[:cap(path)])
			if !bytes.Equal(other, entries[i]) || !slices.Equal(otherPath, wantPath(entries, i)) {
				t.Errorf("P2: two answers about %d share memory", i)
			}
			wantRead(t, "with an answer that was written into", c, entries, i)
		}
		wantTrusted(t, "with answers that were written into", c, trustedOf(entries))
	}
}
