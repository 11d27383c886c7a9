package tiles_test

import (
	"bytes"
	"fmt"
	"maps"
	"math"
	"slices"
	"strings"
	"testing"

	"tiles/api"
)

// someSizes: all up to a tile of 16 hashes and one more, and those around the next levels.
func someSizes() []int {
	var out []int
	for n := range 22 {
		out = append(out, n)
	}
	return append(out, 31, 32, 33, 47, 48, 49, 63, 64, 65, 66, 79, 80, 81, 255, 256, 257)
}

// P11

func TestOpenOfNothing(t *testing.T) {
	wantNoLog(t, nil, "k", api.ErrFailed)
	wantNoLog(t, nil, "", api.ErrFailed)
	s := newShelf()
	if l := mustOpen(t, s, "k"); l.Size() != 0 || len(s.files) != 0 {
		t.Errorf("P11: over an empty store there are %d entries, %d files", l.Size(), len(s.files))
	}
}

func TestOpenOfEverySize(t *testing.T) {
	for _, n := range someSizes() {
		for _, key := range []string{"k", "", "another key"} {
			s := shelfOf(someEntries(n), key)
			before := s.again()
			l := mustOpen(t, s, key)
			if l.Size() != n || !s.sameFiles(before) {
				t.Errorf("P11: opened over the size %d, there are %d entries", n, l.Size())
			}
		}
	}
}

func TestOpenReadsTheCheckpointThenItsBundlesInTheirOrder(t *testing.T) {
	for _, n := range someSizes() {
		s := shelfOf(someEntries(n), "k")
		mustOpen(t, s, "k")
		want := []string{"get checkpoint"}
		for _, f := range wantBundles(someEntries(n)) {
			want = append(want, "get "+f.path)
		}
		if len(s.calls) < len(want) || !slices.Equal(s.calls[:len(want)], want) {
			t.Errorf("P11: the calls at the size %d are %q, want first %q", n, s.calls, want)
		}
	}
}

func TestOpenWithAnotherCheckpoint(t *testing.T) {
	for _, n := range []int{0, 1, 4, 6} {
		entries := someEntries(n)
		right := wantCheckpoint(entries, "k")
		for _, text := range []string{
			"", "x", "\n", right[:len(right)-1], right + "\n", " " + right, strings.ToUpper(right), right + right,
			wantCheckpoint(entries, "K"), wantCheckpoint(entries, ""), signed(fmt.Sprintf("tiles\n0%d\n%x\n", n, wantRoot(entries)), "k"), signed(fmt.Sprintf("tiles\n-1\n%x\n", wantRoot(nil)), "k"),
		} {
			s := shelfOf(entries, "k")
			s.files["checkpoint"] = []byte(text)
			wantNoLog(t, s, "k", api.ErrCheckpoint)
		}
		wantNoLog(t, shelfOf(entries, "k"), "", api.ErrCheckpoint)
		wantNoLog(t, shelfOf(entries, "k"), "kk", api.ErrCheckpoint)
	}
}

func TestOpenWithAMissingBundle(t *testing.T) {
	for _, n := range someSizes() {
		for _, f := range wantBundles(someEntries(n)) {
			s := shelfOf(someEntries(n), "k")
			delete(s.files, f.path)
			wantBrokenAt(t, s, "k", f.path)
		}
	}
}

func TestOpenWithABrokenBundle(t *testing.T) {
	for _, n := range []int{1, 2, 3, 4, 5, 8, 9, 17, 18} {
		bundles := wantBundles(someEntries(n))
		for i, f := range bundles {
			long := file{data: string(wantBundle(someEntries(i*4 + 4)[i*4:]))}
			for _, data := range []string{
				"", "-", "\x01", f.data[1:], f.data[:len(f.data)-1], f.data + "\x01", f.data + "\x00", f.data + f.data + f.data + f.data + f.data,
				"\x15" + strings.Repeat("x", 21), long.data + "\x00", long.data[:8],
			} {
				if entries, ok := entriesIn([]byte(data), 4); ok && len(entries) == min(4, n-4*i) {
					continue
				}
				s := shelfOf(someEntries(n), "k")
				s.files[f.path] = []byte(data)
				wantBrokenAt(t, s, "k", f.path)
			}
		}
	}
}

func TestOpenWithABundleOfAnotherWidth(t *testing.T) {
	for n := 1; n <= 9; n++ {
		for i, f := range wantBundles(someEntries(n)) {
			for width := 1; width <= 4; width++ {
				if width == min(4, n-4*i) {
					continue
				}
				s := shelfOf(someEntries(n), "k")
				s.files[f.path] = wantBundle(someEntries(4*i + width)[4*i:])
				wantBrokenAt(t, s, "k", f.path)
			}
		}
	}
}

// A wider bundle says the same and more, but is not the one of that size.
func TestOpenWithAWiderBundleInPlaceOfTheOneMissing(t *testing.T) {
	for _, n := range []int{1, 2, 3, 5, 6, 7} {
		s := shelfOf(someEntries(n), "k")
		path := wantName(-1, n/4, n%4)
		delete(s.files, path)
		for width := n%4 + 1; width <= 4; width++ {
			s.files[wantName(-1, n/4, width)] = wantBundle(someEntries(n/4*4 + width)[n/4*4:])
		}
		wantBrokenAt(t, s, "k", path)
	}
}

func TestOpenTellsTheFirstBrokenBundle(t *testing.T) {
	s := shelfOf(someEntries(14), "k")
	for _, path := range []string{"entries/3.p/2", "entries/2", "entries/1", "entries/0"} {
		s.files[path] = []byte("-")
		wantBrokenAt(t, s, "k", path)
	}
	s = shelfOf(someEntries(14), "k")
	s.files["entries/1"] = []byte("-")
	delete(s.files, "entries/3.p/2")
	s.files["entries/0"] = wantBundle(textEntries("1", "2", "3", "4"))
	wantBrokenAt(t, s, "k", "entries/1")
	s.files["checkpoint"] = []byte(wantCheckpoint(someEntries(14), "other"))
	wantNoLog(t, s, "k", api.ErrCheckpoint)
}

func TestOpenWithASizeThatIsNotThere(t *testing.T) {
	for _, size := range []int{5, 7, 8, 100, math.MaxInt - 3, math.MaxInt} {
		s := shelfOf(someEntries(4), "k")
		s.files["checkpoint"] = []byte(signed(fmt.Sprintf("tiles\n%d\n%x\n", size, wantRoot(someEntries(4))), "k"))
		wantBrokenAt(t, s, "k", wantName(-1, 1, min(4, size-4)))
		delete(s.files, "entries/0")
		wantBrokenAt(t, s, "k", "entries/0")
	}
}

func TestOpenWithAnotherRoot(t *testing.T) {
	for _, n := range someSizes() {
		for _, root := range []api.Hash{{}, wantHash(1), wantRoot(someEntries(n + 1)), wantRoot(someEntries(max(n-1, 1)))} {
			if root == wantRoot(someEntries(n)) {
				continue
			}
			s := shelfOf(someEntries(n), "k")
			s.files["checkpoint"] = []byte(signed(fmt.Sprintf("tiles\n%d\n%x\n", n, root), "k"))
			wantNoLog(t, s, "k", api.ErrProof)
		}
	}
}

func TestOpenWithOtherEntries(t *testing.T) {
	for _, n := range []int{1, 3, 4, 5, 9} {
		for i := range n {
			entries := someEntries(n)
			entries[i] = []byte("other")
			s := newShelf(wantBundles(entries)...)
			s.files["checkpoint"] = []byte(wantCheckpoint(someEntries(n), "k"))
			wantNoLog(t, s, "k", api.ErrProof)
		}
	}
}

// P12

func TestOpenTakesInWhatIsBehindTheCheckpoint(t *testing.T) {
	for n := range 13 {
		for size := n; size < 26; size++ {
			s := shelfOf(someEntries(n), "k")
			bundles := wantBundles(someEntries(size))
			for i := n / 4; i <= len(bundles); i++ {
				want := max(n, min(4*i, size))
				before := s.again()
				l := mustOpen(t, s, "k")
				if l.Size() != want || !s.sameFiles(before) {
					t.Errorf("P12: %d entries are published, %d are in bundles; there are %d", n, want, l.Size())
				}
				if i < len(bundles) {
					s.files[bundles[i].path] = []byte(bundles[i].data)
				}
			}
		}
	}
}

// What was taken in again are the entries of the bundles, as publishing them shows.
func TestWhatIsTakenInAgainIsPublished(t *testing.T) {
	for n := range 10 {
		for size := n; size < 20; size++ {
			s := shelfOf(someEntries(n), "k")
			s.lay(wantBundles(someEntries(size)))
			l := mustOpen(t, s, "k")
			mustAppend(t, l, someEntries(size + 3)[size:])
			mustPublish(t, l)
			for path, data := range shelfOf(someEntries(size+3), "k").files {
				if !bytes.Equal(s.files[path], data) {
					t.Errorf("P12: %d published, %d in bundles, 3 appended: %s = %q, want %q", n, size, path, s.files[path], data)
				}
			}
		}
	}
}

func TestBundlesBehindTheCheckpoint(t *testing.T) {
	bundle := func(texts ...string) string { return string(wantBundle(textEntries(texts...))) }
	four := bundle("1", "2", "3", "4")
	for _, c := range []struct {
		what  string
		n     int // entries "1", "2" .. that are published
		files []file
		want  int
	}{
		{"none", 0, nil, 0},
		{"the widest counts", 0, []file{{"entries/0.p/1", bundle("1")}, {"entries/0.p/2", bundle("a", "b")}, {"entries/0.p/3", bundle("x", "y", "z")}}, 3},
		{"width 4 counts ahead of all", 0, []file{{"entries/0.p/3", bundle("x", "y", "z")}, {"entries/0", four}}, 4},
		{"the next index only behind width 4", 0, []file{{"entries/0.p/3", bundle("1", "2", "3")}, {"entries/1", four}}, 3},
		{"an index left out", 0, []file{{"entries/1", four}}, 0},
		{"an index left out further on", 0, []file{{"entries/0", four}, {"entries/2", four}}, 4},
		{"on and on", 0, []file{{"entries/0", four}, {"entries/1", four}, {"entries/2", four}, {"entries/3.p/1", "\x00"}}, 13},
		{"the widest is broken", 0, []file{{"entries/0", "-"}, {"entries/0.p/3", bundle("1", "2", "3")}}, 0},
		{"the widest is empty", 0, []file{{"entries/0", ""}, {"entries/0.p/3", bundle("1", "2", "3")}}, 0},
		{"too narrow for its name", 0, []file{{"entries/0", bundle("1", "2", "3")}, {"entries/0.p/3", bundle("1", "2", "3")}}, 0},
		{"too wide for its name", 0, []file{{"entries/0.p/3", four}, {"entries/0.p/2", bundle("1", "2")}}, 0},
		{"too wide for any name", 0, []file{{"entries/0", four + "\x00"}}, 0},
		{"broken further on", 0, []file{{"entries/0", four}, {"entries/1.p/2", bundle("5")}, {"entries/1.p/1", bundle("5")}}, 4},
		{"goes on", 2, []file{{"entries/0.p/3", bundle("1", "2", "x")}}, 3},
		{"goes on to the next index", 2, []file{{"entries/0", bundle("1", "2", "x", "y")}, {"entries/1.p/1", bundle("z")}}, 5},
		{"does not begin with the first", 2, []file{{"entries/0.p/3", bundle("x", "2", "3")}}, 2},
		{"does not begin with the last", 2, []file{{"entries/0.p/3", bundle("1", "x", "3")}}, 2},
		{"begins with a longer one", 2, []file{{"entries/0.p/3", bundle("1", "22", "3")}}, 2},
		{"begins with a shorter one", 2, []file{{"entries/0.p/3", bundle("1", "", "3")}}, 2},
		{"the widest does not begin so, a narrower one does", 2, []file{{"entries/0", bundle("1", "x", "3", "4")}, {"entries/0.p/3", bundle("1", "2", "3")}}, 2},
		{"does not begin so, and the next index", 2, []file{{"entries/0", bundle("x", "2", "3", "4")}, {"entries/1", four}}, 2},
		{"narrower than what is published", 2, []file{{"entries/0.p/1", "-"}}, 2},
		{"ahead of what is published", 4, []file{{"entries/0.p/3", "-"}, {"entries/0.p/1", bundle("x")}}, 4},
		{"behind a full one", 4, []file{{"entries/1.p/2", bundle("5", "6")}}, 6},
		{"of width 4 behind width 3", 3, []file{{"entries/0", bundle("1", "2", "3", "")}}, 4},
		{"width 3, wider is broken", 3, []file{{"entries/0", bundle("1", "2", "3")}, {"entries/1", four}}, 3},
		{"tiles without bundles", 0, []file{{"tile/0/0", "12345678"}, {"tile/0/0.p/1", "12345678"}}, 0},
		{"other paths", 0, []file{{"entries/00", four}, {"entries/0.p/4", four}, {"entries/0.p/0", ""}, {"entries/-1", four}}, 0},
	} {
		s := shelfOf(textEntries("1", "2", "3", "4")[:c.n], "k")
		s.lay(c.files)
		before := s.again()
		if l := mustOpen(t, s, "k"); l.Size() != c.want || !s.sameFiles(before) {
			t.Errorf("P12: %s: there are %d entries, want %d", c.what, l.Size(), c.want)
		}
		delete(s.files, "checkpoint")
		if c.n > 0 {
			continue
		}
		if l := mustOpen(t, s, "k"); l.Size() != c.want {
			t.Errorf("P12: %s, without a checkpoint: there are %d entries, want %d", c.what, l.Size(), c.want)
		}
	}
}

func TestOpenOnlyGets(t *testing.T) {
	for n := range 10 {
		s := shelfOf(someEntries(n), "k")
		s.lay(wantBundles(someEntries(n + 6)))
		if l := mustOpen(t, s, "k"); l.Size() != n+6 {
			t.Errorf("P12: there are %d entries, want %d", l.Size(), n+6)
		}
		for _, call := range s.calls {
			if !strings.HasPrefix(call, "get ") {
				t.Errorf("P12: Open calls %s", call)
			}
		}
	}
}

func TestSizeCountsWhatIsPublishedAndWhatIsNot(t *testing.T) {
	l := mustOpen(t, newShelf(), "k")
	for i, entry := range someEntries(20) {
		if l.Size() != i {
			t.Errorf("P12: Size = %d, want %d", l.Size(), i)
		}
		if i%3 == 0 {
			mustPublish(t, l)
		}
		mustAppend(t, l, [][]byte{entry})
		l.Append(make([]byte, 21))
	}
}

// P13

func TestAppendOfEveryLength(t *testing.T) {
	s := newShelf()
	l := mustOpen(t, s, "k")
	s.calls = nil
	var taken [][]byte
	for _, length := range []int{0, 1, 2, 10, 19, 20, 21, 22, 255, 256, 257, 276, 1 << 16, 20, 0} {
		entry := bytes.Repeat([]byte{byte(length)}, length)
		want := len(taken)
		i, err := l.Append(entry)
		if length > 20 {
			if i != 0 || err != api.ErrEntry || l.Size() != want {
				t.Errorf("P13: Append of %d bytes = %d, %v", length, i, err)
			}
			continue
		}
		taken = append(taken, entry)
		if i != want || err != nil || l.Size() != want+1 {
			t.Errorf("P13: Append of %d bytes = %d, %v, want %d", length, i, err, want)
		}
	}
	mustAppend(t, l, [][]byte{nil})
	if len(s.calls) > 0 || len(s.files) > 0 {
		t.Errorf("P13: Append calls the store: %q", s.calls)
	}
	mustPublish(t, l)
	if !s.sameFiles(shelfOf(append(taken, nil), "k")) {
		t.Errorf("P13: what was appended was not published: %q", s.files)
	}
}

func TestAppendGoesOnBehindWhatIsThere(t *testing.T) {
	for _, n := range someSizes() {
		l := mustOpen(t, shelfOf(someEntries(n), "k"), "k")
		for i := n; i < n+6; i++ {
			if got, err := l.Append([]byte("x")); got != i || err != nil {
				t.Errorf("P13: Append behind %d entries = %d, %v", i, got, err)
			}
		}
	}
}

// P14

// wantWritten: those files were put, just once each, the bundles in their order ahead of the tiles, and then the checkpoint was swapped; nothing else was called.
func wantWritten(t *testing.T, what string, calls []string, bundles, tiles []file) {
	t.Helper()
	var want, wantTiles []string
	for _, f := range bundles {
		want = append(want, "put "+f.path)
	}
	for _, f := range tiles {
		wantTiles = append(wantTiles, "put "+f.path)
	}
	want = append(append(want, slices.Sorted(slices.Values(wantTiles))...), "swap checkpoint")
	got := slices.Clone(calls)
	if len(got) == len(want) {
		slices.Sort(got[len(bundles) : len(got)-1])
	}
	if !slices.Equal(got, want) {
		t.Errorf("P14: %s: the calls are %q, want %q", what, calls, want)
	}
}

func without(list, other []file) []file {
	return slices.DeleteFunc(slices.Clone(list), func(f file) bool { return slices.Contains(other, f) })
}

func TestFilesOfTheSizeFive(t *testing.T) {
	s := newShelf()
	l := mustOpen(t, s, "k")
	mustAppend(t, l, someEntries(5))
	mustPublish(t, l)
	want := []string{"checkpoint", "entries/0", "entries/1.p/1", "tile/0/0", "tile/0/1.p/1", "tile/1/0.p/1"}
	if got := slices.Sorted(maps.Keys(s.files)); !slices.Equal(got, want) {
		t.Errorf("P14: the files of the size 5 are %q", got)
	}
}

func TestPublishOfEverySize(t *testing.T) {
	for _, n := range someSizes() {
		entries := someEntries(n)
		s := newShelf()
		l := mustOpen(t, s, "k")
		mustAppend(t, l, entries)
		s.calls = nil
		mustPublish(t, l)
		wantWritten(t, fmt.Sprintf("the size %d", n), s.calls, wantBundles(entries), wantTiles(entries))
		if !s.sameFiles(shelfOf(entries, "k")) {
			t.Errorf("P14: the files of the size %d are %q", n, s.files)
		}
		s.calls = nil
		mustPublish(t, l)
		mustPublish(t, l)
		if !slices.Equal(s.calls, []string{"swap checkpoint", "swap checkpoint"}) || !s.sameFiles(shelfOf(entries, "k")) {
			t.Errorf("P14: Publish again at the size %d calls %q", n, s.calls)
		}
	}
}

func TestPublishPutsOnlyWhatItHasNotPutYet(t *testing.T) {
	for _, n := range someSizes() {
		for _, more := range []int{1, 2, 3, 4, 5, 11, 12, 16, 17, 48} {
			older, newer := someEntries(n), someEntries(n+more)
			s := newShelf()
			l := mustOpen(t, s, "k")
			mustAppend(t, l, older)
			mustPublish(t, l)
			mustAppend(t, l, newer[n:])
			s.calls = nil
			mustPublish(t, l)
			what := fmt.Sprintf("the size %d behind %d", n+more, n)
			wantWritten(t, what, s.calls, without(wantBundles(newer), wantBundles(older)), without(wantTiles(newer), wantTiles(older)))
			wantGrown(t, what, s, older, newer)
		}
	}
}

// wantGrown: the files of both sizes are there as they should be, and no other.
func wantGrown(t *testing.T, what string, s *shelf, older, newer [][]byte) {
	t.Helper()
	want := shelfOf(older, "k")
	maps.Copy(want.files, shelfOf(newer, "k").files)
	if !s.sameFiles(want) {
		t.Errorf("P14: %s: the files are %q", what, s.files)
	}
}

func TestPublishEntryByEntry(t *testing.T) {
	s, want := newShelf(), newShelf()
	l := mustOpen(t, s, "k")
	entries := someEntries(many)
	for n := range many {
		mustPublish(t, l)
		maps.Copy(want.files, shelfOf(entries[:n], "k").files)
		if !s.sameFiles(want) {
			t.Fatalf("P14: the files at the size %d are %q", n, s.files)
		}
		mustAppend(t, l, entries[n:n+1])
	}
	puts := map[string]int{}
	for _, call := range s.calls {
		if puts[call]++; strings.HasPrefix(call, "put ") && puts[call] > 1 {
			t.Errorf("P14: one publisher calls twice: %s", call)
		}
	}
}

// A publisher that is opened anew has put nothing yet.
func TestPublishOpenedAnew(t *testing.T) {
	for _, n := range someSizes() {
		for _, more := range []int{0, 1, 3, 4, 13} {
			older, newer := someEntries(n), someEntries(n+more)
			s := shelfOf(older, "k")
			l := mustOpen(t, s, "k")
			mustAppend(t, l, newer[n:])
			s.calls = nil
			mustPublish(t, l)
			what := fmt.Sprintf("opened at %d, the size %d", n, n+more)
			wantWritten(t, what, s.calls, wantBundles(newer), wantTiles(newer))
			wantGrown(t, what, s, older, newer)
		}
	}
}

func TestPublishMakesGoodWhatIsMissing(t *testing.T) {
	s := shelfOf(someEntries(6), "k")
	for _, f := range wantTiles(someEntries(6)) {
		delete(s.files, f.path)
	}
	mustPublish(t, mustOpen(t, s, "k"))
	if !s.sameFiles(shelfOf(someEntries(6), "k")) {
		t.Errorf("P14: the files are %q", s.files)
	}
}

func TestPublishSignsWithItsKey(t *testing.T) {
	for _, key := range someKeys() {
		s := newShelf()
		l := mustOpen(t, s, key)
		mustAppend(t, l, someEntries(3))
		mustPublish(t, l)
		if got, want := string(s.files["checkpoint"]), wantCheckpoint(someEntries(3), key); got != want {
			t.Errorf("P14: the checkpoint is %q, want %q", got, want)
		}
		if l := mustOpen(t, s, key); l.Size() != 3 {
			t.Errorf("P11: opened anew, there are %d entries", l.Size())
		}
	}
}
