package tiles_test

import (
	"fmt"
	"math"
	"slices"
	"strings"
	"testing"

	"tiles/api"
	"tiles/tiles"
)

// edgeSizes stand around those at which a tile, a level or a bundle is full.
func edgeSizes() []int {
	return []int{1, 2, 3, 4, 5, 6, 7, 8, 9, 11, 12, 13, 15, 16, 17, 19, 20, 21, 23, 31, 32, 33, 48, 52, 55, 63, 64, 65, 66, 69, 79, 80, 85}
}

// P16

func TestNewClientTrustsNoEntries(t *testing.T) {
	none := api.Trusted{Root: wantHash()}
	for _, capacity := range wildNumbers() {
		r := roadTo(someEntries(5))
		c := newClient(r, capacity)
		wantTrusted(t, "new", c, none)
		wantNoRead(t, "new", c, 0, api.ErrRange)
		if len(r.fetched) != 0 {
			t.Errorf("P16: a client that was asked for nothing fetches %q", r.fetched)
		}
	}
}

func TestClientWithoutTransport(t *testing.T) {
	for _, capacity := range []int{-1, 0, 1, 16} {
		c := tiles.NewClient(nil, "k", capacity)
		for range 2 {
			wantNoUpdate(t, "without a transport", c, api.ErrCheckpoint)
			wantNoRead(t, "without a transport", c, 0, api.ErrRange)
			wantTrusted(t, "without a transport", c, api.Trusted{Root: wantHash()})
		}
	}
}

func TestClientsAreApart(t *testing.T) {
	entries := someEntries(9)
	r := roadTo(entries[:5])
	first := clientAt(t, r, 16)
	r.grow(entries)
	second := clientAt(t, r, 16)
	wantTrusted(t, "of two clients the first", first, trustedOf(entries[:5]))
	wantTrusted(t, "of two clients the second", second, trustedOf(entries))
}

// P17

func TestUpdateWithoutACheckpointOfTheKey(t *testing.T) {
	entries := someEntries(7)
	right := wantCheckpoint(entries, "k")
	for what, l := range map[string]lie{
		"lost":                 {nil, errLost},
		"with an error":        {[]byte(right), errLost},
		"nil":                  {nil, nil},
		"empty":                {[]byte{}, nil},
		"of another key":       {[]byte(wantCheckpoint(entries, "K")), nil},
		"of no key":            {[]byte(wantCheckpoint(entries, "")), nil},
		"a byte short":         {[]byte(right[:len(right)-1]), nil},
		"a byte long":          {[]byte(right + "\n"), nil},
		"with another size":    {[]byte(strings.Replace(right, "\n7\n", "\n8\n", 1)), nil},
		"with a size below 0":  {[]byte(signed(fmt.Sprintf("tiles\n-1\n%x\n", wantHash()), "k")), nil},
		"with noughts ahead":   {[]byte(signed(fmt.Sprintf("tiles\n07\n%x\n", wantRoot(entries)), "k")), nil},
		"with great digits":    {[]byte(signed(fmt.Sprintf("tiles\n7\n%X\n", wantRoot(entries)), "k")), nil},
		"with a size too big":  {[]byte(signed(fmt.Sprintf("tiles\n%s\n%x\n", aboveInt(), wantRoot(entries)), "k")), nil},
		"which is some bundle": {wantBundle(entries[:4]), nil},
	} {
		r := roadTo(entries)
		fresh, grown := newClient(r, 16), clientFrom(t, r, entries[:3], entries, 16)
		r.lie("checkpoint", l)
		for range 2 {
			fetched := r.asked(func() { wantNoUpdate(t, what, fresh, api.ErrCheckpoint) })
			if !slices.Equal(fetched, []string{"checkpoint"}) {
				t.Errorf("P17: with a checkpoint %s Update fetches %q", what, fetched)
			}
			wantNoUpdate(t, what, grown, api.ErrCheckpoint)
		}
		r.tellTheTruth()
		wantUpdate(t, "behind one "+what, fresh, entries, nil)
		wantUpdate(t, "behind one "+what, grown, entries, wantProof(entries, 3))
	}
}

func TestUpdateAsksForItsOwnKey(t *testing.T) {
	entries := someEntries(7)
	for _, key := range someKeys() {
		r := roadTo(entries)
		r.lie("checkpoint", lie{[]byte(wantCheckpoint(entries, key)), nil})
		c := tiles.NewClient(r, key, 16)
		wantUpdate(t, "of its key", c, entries, nil)
	}
}

func TestUpdateToAnOlderCheckpoint(t *testing.T) {
	entries := someEntries(20)
	for n := range entries {
		r := roadTo(entries[:n+1])
		c := clientAt(t, r, 16)
		for m := range n + 1 {
			r.grow(entries[:m])
			wantNoUpdate(t, fmt.Sprintf("from %d to %d", n+1, m), c, api.ErrOld)
			r.lie("checkpoint", lie{[]byte(signed(fmt.Sprintf("tiles\n%d\n%x\n", m, wantHash(9)), "k")), nil})
			wantNoUpdate(t, fmt.Sprintf("from %d to %d with another root", n+1, m), c, api.ErrOld)
			r.tellTheTruth()
		}
	}
}

func TestUpdateToTheSameSize(t *testing.T) {
	entries := someEntries(20)
	for n := range 21 {
		r := roadTo(entries[:n])
		c := clientAt(t, r, 16)
		for _, root := range []api.Hash{{}, turned(wantRoot(entries[:n])), wantHash(9), wantRoot(someEntries(n + 1))} {
			r.lie("checkpoint", lie{[]byte(signed(fmt.Sprintf("tiles\n%d\n%x\n", n, root), "k")), nil})
			wantNoUpdate(t, fmt.Sprintf("from %d with another root", n), c, api.ErrProof)
		}
		r.tellTheTruth()
		fetched := r.asked(func() { wantUpdate(t, fmt.Sprintf("from %d to the same", n), c, entries[:n], nil) })
		if !slices.Equal(fetched, []string{"checkpoint"}) {
			t.Errorf("P17: Update from %d to the same fetches %q", n, fetched)
		}
	}
}

func TestUpdateOfANewClientToNoEntriesWithAnotherRoot(t *testing.T) {
	for _, root := range []api.Hash{{}, turned(wantHash()), wantHash(9)} {
		r := roadTo(nil)
		r.lie("checkpoint", lie{[]byte(signed(fmt.Sprintf("tiles\n0\n%x\n", root), "k")), nil})
		c := newClient(r, 16)
		wantNoUpdate(t, "with the size 0 and another root", c, api.ErrProof)
		r.tellTheTruth()
		wantUpdate(t, "with the size 0 and its root", c, nil, nil)
	}
}

// What is trusted first has nothing that it could go on from: any root will do, and nothing else is fetched.
func TestTheFirstUpdate(t *testing.T) {
	for _, size := range []int{1, 2, 3, 4, 5, 100, math.MaxInt} {
		want := api.Trusted{Size: size, Root: wantHash(byte(size))}
		r := roadTo(nil)
		r.lie("checkpoint", lie{[]byte(signed(fmt.Sprintf("tiles\n%d\n%x\n", size, want.Root), "k")), nil})
		c := newClient(r, 16)
		fetched := r.asked(func() {
			if proof, err := c.Update(); len(proof) != 0 || err != nil {
				t.Errorf("P17: the first Update, to %d = %x, %v", size, proof, err)
			}
		})
		wantTrusted(t, "the first", c, want)
		if !slices.Equal(fetched, []string{"checkpoint"}) {
			t.Errorf("P17: the first Update fetches %q", fetched)
		}
	}
}

func TestUpdateToEverySize(t *testing.T) {
	entries := someEntries(many)
	for n := 2; n <= many; n++ {
		files := filesOf(entries[:n])
		for m := 1; m < n; m++ {
			fetched := neededToGrow(t, entries[:m], entries[:n])
			wantOnce(t, fmt.Sprintf("Update from %d to %d", m, n), fetched, files)
		}
	}
}

// wantOnce: each file is fetched at most once, and is one of those.
func wantOnce(t *testing.T, what string, fetched, files []string) {
	t.Helper()
	for k, path := range fetched {
		if slices.Contains(fetched[:k], path) || !slices.Contains(files, path) {
			t.Errorf("P18: %s fetches %q, of the files %q", what, fetched, files)
		}
	}
}

func TestUpdateStepByStep(t *testing.T) {
	entries := someEntries(many)
	for _, step := range []int{1, 2, 3, 4, 5, 16, 17} {
		r := roadTo(entries[:step])
		c := clientAt(t, r, 16)
		for n := 2 * step; n <= many; n += step {
			r.grow(entries[:n])
			wantUpdate(t, fmt.Sprintf("by steps of %d", step), c, entries[:n], wantProof(entries[:n], n-step))
		}
	}
}

// A log that does not go on from the older one has a right checkpoint and right files all the same.
func TestUpdateToALogThatHasTurned(t *testing.T) {
	entries := someEntries(24)
	for n := 2; n <= 24; n++ {
		for m := 1; m < n; m++ {
			r := roadTo(nil)
			c := clientFrom(t, r, entries[:m], entries[:n], 16)
			other := slices.Clone(entries[:n])
			other[(m*7)%m] = []byte("another")
			r.grow(other)
			wantNoUpdate(t, fmt.Sprintf("from %d to %d other ones", m, n), c, api.ErrProof)
			r.grow(entries[:n])
			r.lie("checkpoint", lie{[]byte(signed(fmt.Sprintf("tiles\n%d\n%x\n", n, turned(wantRoot(entries[:n]))), "k")), nil})
			wantNoUpdate(t, fmt.Sprintf("from %d to %d with another root", m, n), c, api.ErrProof)
			r.tellTheTruth()
			wantUpdate(t, "behind another log", c, entries[:n], wantProof(entries[:n], m))
		}
	}
}

// growths are sizes from which, and to which, a client goes on.
func growths() [][2]int {
	var out [][2]int
	for _, n := range []int{2, 3, 4, 5, 7, 8, 11, 16, 17, 21, 23, 32, 55, 64, 65, 85} {
		for _, m := range []int{1, 2, 3, 4, 5, 6, 7, 8, 12, 13, 16, 20, 31, 32, 48, 63, 64} {
			if m < n {
				out = append(out, [2]int{m, n})
			}
		}
	}
	return out
}

func TestUpdateWithATileThatIsMisformed(t *testing.T) {
	entries := someEntries(90)
	for _, g := range growths() {
		older, newer := entries[:g[0]], entries[:g[1]]
		for _, path := range neededToGrow(t, older, newer) {
			r := roadTo(nil)
			c := clientFrom(t, r, older, newer, 16)
			for what, l := range misformed(path, r.files[path]) {
				r.lie(path, l)
				what = fmt.Sprintf("%d to %d, %s %s", g[0], g[1], path, what)
				wantTried(t, what, path, r.asked(func() { wantNoUpdateAt(t, what, c, path) }))
			}
			r.tellTheTruth()
			wantUpdate(t, "behind "+path+" misformed", c, newer, wantProof(newer, g[0]))
		}
	}
}

// wantTried: a file that does not come is asked for by its own name, then, unless that is the same, by the name of width 4, and the call ends there.
func wantTried(t *testing.T, what, path string, fetched []string) {
	t.Helper()
	at := slices.Index(fetched, path)
	want := slices.Compact([]string{path, wholeName(path)})
	if at < 0 || !slices.Equal(fetched[at:], want) {
		t.Errorf("P18: %s: fetched are %q, want %q at their end", what, fetched, want)
	}
}

// takenToGrow: whether a hash of a level counts for the proof from m to a size in which its tile is needed. One of entries on both sides of m does not (the proof makes it anew), nor, if m is a power of 2, one of those ahead of it: their root is trusted already.
func takenToGrow(m, level, number int) bool {
	first, end := number<<(2*level), (number+1)<<(2*level)
	if first < m && m < end {
		return false
	}
	return first >= m || m&(m-1) != 0
}

func TestUpdateWithATileThatIsTurned(t *testing.T) {
	entries := someEntries(90)
	for _, g := range growths() {
		older, newer := entries[:g[0]], entries[:g[1]]
		for _, path := range neededToGrow(t, older, newer) {
			level, index, width, _ := tiles.Parse(path)
			for k := range width {
				r := roadTo(nil)
				c := clientFrom(t, r, older, newer, 16)
				r.lie(path, lie{turnedAt(path, r.files[path], k), nil})
				what := fmt.Sprintf("%d to %d, %s turned at %d", g[0], g[1], path, k)
				if !takenToGrow(g[0], level, index*4+k) {
					wantUpdate(t, what, c, newer, wantProof(newer, g[0]))
					continue
				}
				wantNoUpdate(t, what, c, api.ErrProof)
				r.tellTheTruth()
				wantUpdate(t, "behind "+what, c, newer, wantProof(newer, g[0]))
			}
		}
	}
}

// P18

func TestReadOutOfRange(t *testing.T) {
	for n := range 20 {
		r := roadTo(someEntries(n))
		r.lay(shelfOf(someEntries(n+3), "k").files)
		c := clientAt(t, r, 16)
		for _, i := range append(wildNumbers(), n, n+1, n+2, n+3) {
			if i >= 0 && i < n {
				continue
			}
			fetched := r.asked(func() { wantNoRead(t, fmt.Sprintf("of %d", n), c, i, api.ErrRange) })
			if len(fetched) != 0 {
				t.Errorf("P18: Read(%d) of %d fetches %q", i, n, fetched)
			}
		}
	}
}

// lay lays files down that the log does not have yet.
func (r *road) lay(files map[string][]byte) {
	for path, data := range files {
		if _, ok := r.files[path]; !ok {
			r.files[path] = data
		}
	}
}

func TestReadOfEveryEntry(t *testing.T) {
	for n := 1; n <= many; n++ {
		entries := someEntries(n)
		files := filesOf(entries)
		for i := range n {
			wantOnce(t, fmt.Sprintf("Read(%d) of %d", i, n), neededBy(t, entries, i), files)
		}
	}
}

func TestReadOfGreaterLogs(t *testing.T) {
	for _, n := range []int{127, 128, 129, 239, 255, 256, 257, 321, 341} {
		entries := someEntries(n)
		c := clientAt(t, roadTo(entries), 16)
		for _, i := range []int{0, 1, 3, 4, 15, 16, 63, 64, n / 2, n - 5, n - 2, n - 1} {
			wantRead(t, fmt.Sprintf("of %d", n), c, entries, i)
		}
	}
}

func TestWhatReadFetches(t *testing.T) {
	for _, x := range []struct {
		n, i int
		want string
	}{
		{1, 0, "entries/0.p/1"},
		{2, 0, "entries/0.p/2 tile/0/0.p/2"},
		{4, 3, "entries/0 tile/0/0"},
		{5, 4, "entries/1.p/1 tile/1/0.p/1"},
		{5, 0, "entries/0 tile/0/0 tile/0/1.p/1"},
		{8, 5, "entries/1 tile/0/1 tile/1/0.p/2"},
		{16, 0, "entries/0 tile/0/0 tile/1/0"},
		{11, 8, "entries/2.p/3 tile/0/2.p/3 tile/1/0.p/2"},
		{52, 0, "entries/0 tile/0/0 tile/1/0 tile/1/3.p/1 tile/2/0.p/3"},
		{64, 63, "entries/15 tile/0/15 tile/1/3 tile/2/0"},
		{65, 64, "entries/16.p/1 tile/3/0.p/1"},
	} {
		got := slices.Sorted(slices.Values(neededBy(t, someEntries(x.n), x.i)))
		if strings.Join(got, " ") != x.want {
			t.Errorf("P18: Read(%d) of %d fetches %q, want %s", x.i, x.n, got, x.want)
		}
	}
}

func TestWhatUpdateFetches(t *testing.T) {
	for _, x := range []struct {
		m, n int
		want string
	}{
		{1, 2, "tile/0/0.p/2"},
		{4, 8, "tile/1/0.p/2"},
		{6, 11, "tile/0/1 tile/0/2.p/3 tile/1/0.p/2"},
		{8, 16, "tile/1/0"},
		{16, 17, "tile/0/4.p/1"},
		{32, 64, "tile/2/0"},
		{63, 64, "tile/0/15 tile/1/3 tile/2/0"},
	} {
		got := slices.Sorted(slices.Values(neededToGrow(t, someEntries(x.m), someEntries(x.n))))
		if strings.Join(got, " ") != x.want {
			t.Errorf("P17: Update from %d to %d fetches %q, want %s", x.m, x.n, got, x.want)
		}
	}
}

func TestReadOfEntriesOfEveryLength(t *testing.T) {
	var entries [][]byte
	for length := range 21 {
		entries = append(entries, []byte(strings.Repeat("\x00", length)))
	}
	entries = append(entries, nil, nil, nil, nil, []byte{1}, nil)
	for n := 1; n <= len(entries); n++ {
		c := clientAt(t, roadTo(entries[:n]), 16)
		for i := range n {
			wantRead(t, fmt.Sprintf("of %d", n), c, entries[:n], i)
		}
	}
}

func TestReadWithAFileThatIsMisformed(t *testing.T) {
	entries := someEntries(90)
	for _, n := range edgeSizes() {
		for _, i := range someOf(n) {
			for _, path := range neededBy(t, entries[:n], i) {
				r := roadTo(entries[:n])
				c := clientAt(t, r, 16)
				for what, l := range misformed(path, r.files[path]) {
					r.lie(path, l)
					what = fmt.Sprintf("of %d, %s %s", n, path, what)
					wantTried(t, what, path, r.asked(func() { wantNoReadAt(t, what, c, i, path) }))
				}
				r.tellTheTruth()
				wantRead(t, "behind "+path+" misformed", c, entries[:n], i)
			}
		}
	}
}

// someOf are entries of a log: the first ones, the last ones, and some between.
func someOf(n int) []int {
	var out []int
	for _, i := range []int{0, 1, 2, 3, 4, 7, 17, n / 2, n - 6, n - 5, n - 4, n - 3, n - 2, n - 1} {
		if i >= 0 && i < n && !slices.Contains(out, i) {
			out = append(out, i)
		}
	}
	return out
}

// takenToRead: whether a piece of a file counts for Read of an entry which needs that file: of a bundle just the entry, of a tile all hashes but that under which the entry stands.
func takenToRead(i, level, number int) bool {
	if level < 0 {
		return number == i
	}
	return number != i>>(2*level)
}

func TestReadWithAFileThatIsTurned(t *testing.T) {
	entries := someEntries(90)
	for _, n := range edgeSizes() {
		for _, i := range someOf(n) {
			for _, path := range neededBy(t, entries[:n], i) {
				level, index, width, _ := tiles.Parse(path)
				for k := range width {
					r := roadTo(entries[:n])
					c := clientAt(t, r, 16)
					r.lie(path, lie{turnedAt(path, r.files[path], k), nil})
					what := fmt.Sprintf("of %d, %s turned at %d", n, path, k)
					if !takenToRead(i, level, index*4+k) {
						wantRead(t, what, c, entries[:n], i)
						continue
					}
					wantNoRead(t, what, c, i, api.ErrProof)
					r.tellTheTruth()
					wantRead(t, "behind "+what, c, entries[:n], i)
				}
			}
		}
	}
}

func TestReadUnderATrustedRootThatIsNone(t *testing.T) {
	for _, n := range edgeSizes() {
		entries := someEntries(n)
		r := roadTo(entries)
		r.lie("checkpoint", lie{[]byte(signed(fmt.Sprintf("tiles\n%d\n%x\n", n, turned(wantRoot(entries))), "k")), nil})
		c := newClient(r, 16)
		c.Update()
		for _, i := range someOf(n) {
			wantNoRead(t, "under another root", c, i, api.ErrProof)
		}
	}
}

// A file of a width below 4 may be gone once the log has grown: then the whole one is there.

// grownTo is a size in which a file of a smaller one is whole.
func grownTo(path string) int {
	level, index, _, _ := tiles.Parse(path)
	return (index + 1) * 4 << (2 * max(level, 0))
}

func TestReadOutOfWholeFiles(t *testing.T) {
	all := someEntries(260)
	for _, n := range edgeSizes() {
		for _, i := range someOf(n) {
			for _, path := range neededBy(t, all[:n], i) {
				if pieces(path) < 4 {
					readOutOfTheWhole(t, all, n, i, path)
				}
			}
		}
	}
}

func readOutOfTheWhole(t *testing.T, all [][]byte, n, i int, path string) {
	t.Helper()
	entries, whole := all[:n], wholeName(path)
	r := roadTo(entries)
	r.lay(shelfOf(all[:grownTo(path)], "k").files)
	for what, l := range misformed(path, r.files[path]) {
		what = fmt.Sprintf("of %d, %s %s", n, path, what)
		r.lie(path, l)
		c := clientAt(t, r, 16)
		fetched := r.asked(func() { wantRead(t, what, c, entries, i) })
		if at := slices.Index(fetched, path); at+1 >= len(fetched) || fetched[at+1] != whole {
			t.Errorf("P18: %s: fetched are %q, want %s right behind it", what, fetched, whole)
		}
		fetched = r.asked(func() { wantRead(t, what+", once more", c, entries, i) })
		if len(fetched) != 0 {
			t.Errorf("P19: %s: once more, fetched are %q", what, fetched)
		}
	}
	for what, l := range misformed(whole, r.files[whole]) {
		r.lie(whole, l)
		wantNoReadAt(t, fmt.Sprintf("of %d, %s lost and %s %s", n, path, whole, what), clientAt(t, r, 16), i, path)
	}
	level, index, width, _ := tiles.Parse(path)
	for k := range 4 {
		r.lie(whole, lie{turnedAt(whole, r.files[whole], k), nil})
		what := fmt.Sprintf("of %d, %s lost and %s turned at %d", n, path, whole, k)
		if k < width && takenToRead(i, level, index*4+k) {
			wantNoRead(t, what, clientAt(t, r, 16), i, api.ErrProof)
		} else {
			wantRead(t, what, clientAt(t, r, 16), entries, i)
		}
	}
}

func TestUpdateOutOfWholeFiles(t *testing.T) {
	all := someEntries(260)
	for _, g := range growths() {
		older, newer := all[:g[0]], all[:g[1]]
		for _, path := range neededToGrow(t, older, newer) {
			if pieces(path) == 4 {
				continue
			}
			whole := wholeName(path)
			r := roadTo(nil)
			c := clientFrom(t, r, older, newer, 16)
			r.lay(shelfOf(all[:grownTo(path)], "k").files)
			r.lie(path, lie{nil, errLost})
			for what, l := range misformed(whole, r.files[whole]) {
				r.lie(whole, l)
				wantNoUpdateAt(t, fmt.Sprintf("%d to %d, %s lost and %s %s", g[0], g[1], path, whole, what), c, path)
			}
			delete(r.lies, whole)
			wantUpdate(t, "with "+path+" lost", c, newer, wantProof(newer, g[0]))
		}
	}
}

// With its right form a file is taken, and the whole one not asked for, though it may be a lie.
func TestAFileThatIsTurnedIsNotFetchedByAnotherName(t *testing.T) {
	entries := someEntries(7)
	r := roadTo(entries)
	r.lay(shelfOf(someEntries(8), "k").files)
	r.lie("entries/1.p/3", lie{turnedAt("entries/1.p/3", r.files["entries/1.p/3"], 0), nil})
	c := clientAt(t, r, 16)
	fetched := r.asked(func() { wantNoRead(t, "with a bundle turned", c, 4, api.ErrProof) })
	if slices.Contains(fetched, "entries/1") {
		t.Errorf("P18: fetched are %q", fetched)
	}
}

func TestReadTellsTheBundleFirst(t *testing.T) {
	for _, n := range edgeSizes() {
		r := roadTo(someEntries(n))
		c := clientAt(t, r, 16)
		clear(r.files)
		for _, i := range someOf(n) {
			wantNoReadAt(t, "with nothing there", c, i, wantName(-1, i/4, min(n-i/4*4, 4)))
		}
	}
}
