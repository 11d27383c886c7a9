package tiles_test

import (
	"fmt"
	"math"
	"math/rand"
	"runtime"
	"slices"
	"sync"
	"sync/atomic"
	"testing"

	"tiles/api"
	"tiles/tiles"
)

// P19

func TestTheSameReadFetchesNothing(t *testing.T) {
	for n := 1; n <= 256; n++ {
		if n > 90 && n%16 > 1 && n%16 < 15 {
			continue
		}
		entries := someEntries(n)
		r := roadTo(entries)
		c := clientAt(t, r, 16)
		for i := range n {
			if n > 90 && i > 10 && i < n-10 && i%7 > 0 {
				continue
			}
			c.Read(i)
			what := fmt.Sprintf("of %d, once more", n)
			wantFetched(t, what, r, nil, func() { wantRead(t, what, c, entries, i) })
			wantFetched(t, what, r, []string{"checkpoint"}, func() { wantUpdate(t, what, c, entries, nil) })
			wantFetched(t, what, r, nil, func() { wantRead(t, what, c, entries, i) })
		}
	}
}

// wantFetched: a call fetches just these.
func wantFetched(t *testing.T, what string, r *road, want []string, call func()) {
	t.Helper()
	if fetched := r.asked(call); !slices.Equal(fetched, want) {
		t.Errorf("P19: %s: fetched are %q, want %q", what, fetched, want)
	}
}

// model is a memory as the document tells it: whole files, those that were needed last.
type model struct {
	capacity int
	held     []string
}

// need: what has to be fetched; from then on it is held.
func (m *model) need(files []string) []string {
	var fetched []string
	for _, path := range files {
		if !slices.Contains(m.held, path) {
			fetched = append(fetched, path)
		}
	}
	m.held = slices.DeleteFunc(m.held, func(path string) bool { return slices.Contains(files, path) })
	m.held = append(m.held, files...)
	m.held = m.held[max(0, len(m.held)-max(0, m.capacity)):]
	return fetched
}

func TestWhatWasNeededLastIsRemembered(t *testing.T) {
	entries := someEntries(300)
	for _, capacity := range []int{math.MinInt, -1, 0, 1, 2, 3, 4, 5, 7, 8, 16, 17, 30, 1000, math.MaxInt} {
		for seed := range 6 {
			random := rand.New(rand.NewSource(int64(seed)))
			n := 1 + random.Intn(40)
			r := roadTo(entries[:n])
			c := clientAt(t, r, capacity)
			m := &model{capacity: capacity}
			for range 60 {
				what := fmt.Sprintf("capacity %d, size %d", capacity, n)
				if random.Intn(6) == 0 {
					older := n
					n = min(n+1+random.Intn(30), len(entries))
					if older == n {
						break
					}
					r.grow(entries[:n])
					need := neededToGrow(t, entries[:older], entries[:n])
					want := append([]string{"checkpoint"}, m.need(need)...)
					wantFetched(t, what+", Update", r, want, func() { wantUpdate(t, what, c, entries[:n], wantProof(entries[:n], older)) })
				}
				i := random.Intn(n)
				if random.Intn(2) == 0 {
					i = min(n-1, random.Intn(9))
				}
				want := m.need(neededBy(t, entries[:n], i))
				wantFetched(t, fmt.Sprintf("%s, Read(%d)", what, i), r, want, func() { wantRead(t, what, c, entries[:n], i) })
			}
		}
	}
}

// With room for all of them no file of the same size is fetched twice, whichever way the client has come to that size.
func TestNoFileIsFetchedTwice(t *testing.T) {
	entries := someEntries(many)
	for n := 2; n <= many; n++ {
		for m := 1; m < n; m++ {
			if n > 40 && (m+n)%5 > 0 {
				continue
			}
			r := roadTo(nil)
			c := clientFrom(t, r, entries[:m], entries[:n], 1000)
			what := fmt.Sprintf("from %d to %d", m, n)
			fetched := r.asked(func() {
				wantUpdate(t, what, c, entries[:n], wantProof(entries[:n], m))
				for i := range n {
					wantRead(t, what, c, entries[:n], i)
				}
			})
			wantOnce(t, what, fetched, filesOf(entries[:n]))
		}
	}
}

func TestNothingIsRememberedWithoutCapacity(t *testing.T) {
	for _, capacity := range []int{math.MinInt, -16, -1, 0} {
		for _, n := range edgeSizes() {
			entries := someEntries(n)
			r := roadTo(entries)
			c := clientAt(t, r, capacity)
			for _, i := range someOf(n) {
				for range 2 {
					wantFetched(t, fmt.Sprintf("Read(%d) of %d", i, n), r, neededBy(t, entries, i), func() { c.Read(i) })
				}
			}
			clear(r.files)
			for _, i := range someOf(n) {
				wantNoReadAt(t, "with nothing there", c, i, wantName(-1, i/4, min(n-i/4*4, 4)))
			}
		}
	}
}

// What is answered when nothing comes any more is made of no more than capacity files.
func TestNoMoreThanCapacityFilesAreRemembered(t *testing.T) {
	for _, n := range []int{1, 4, 5, 23, 64, 85} {
		entries := someEntries(n)
		for capacity := range 20 {
			r := roadTo(entries)
			c := clientAt(t, r, capacity)
			for i := range n {
				wantRead(t, "to fill it", c, entries, i)
			}
			clear(r.files)
			var held []string
			for i := range n {
				if _, _, err := c.Read(i); err == nil {
					held = append(held, neededBy(t, entries, i)...)
				}
			}
			slices.Sort(held)
			if held = slices.Compact(held); len(held) > max(0, capacity) {
				t.Errorf("P19: of %d, with capacity %d, remembered are %q", n, capacity, held)
			}
		}
	}
}

// A lie in a piece that the proof is not made of passes; it must not be what a later call is answered out of.

func TestLiesBesideTheEntryAreNotRemembered(t *testing.T) {
	for _, n := range []int{2, 4, 5, 7, 11, 16, 21, 23, 55, 64} {
		entries := someEntries(n)
		for _, i := range someOf(n) {
			for _, path := range neededBy(t, entries, i) {
				for k := range pieces(path) {
					r := roadTo(entries)
					r.lie(path, lie{turnedAt(path, r.files[path], k), nil})
					c := clientAt(t, r, 1000)
					wantTruthBehind(t, fmt.Sprintf("of %d, %s turned at %d, Read(%d)", n, path, k, i), r, c, entries, i)
				}
			}
		}
	}
}

// wantTruthBehind: however entry i is read while the transport lies, each Read is either right or ErrProof, what was answered once is answered out of the memory, and as soon as the transport tells the truth, all is.
func wantTruthBehind(t *testing.T, what string, r *road, c *tiles.Client, entries [][]byte, i int) {
	t.Helper()
	var read []int
	for _, j := range append([]int{i}, someOf(len(entries))...) {
		if _, _, err := c.Read(j); err == nil {
			read = append(read, j)
		} else if err != api.ErrProof {
			t.Errorf("P18: %s: while it lies, Read(%d): %v", what, j, err)
		}
	}
	wantFetched(t, what, r, nil, func() {
		for _, j := range read {
			wantRead(t, what+", read already", c, entries, j)
		}
	})
	r.tellTheTruth()
	for j := range entries {
		wantRead(t, what+", then the truth", c, entries, j)
	}
	wantFetched(t, what, r, nil, func() {
		for j := range entries {
			wantRead(t, what+", then nothing", c, entries, j)
		}
	})
}

func TestLiesBesideTheProofAreNotRemembered(t *testing.T) {
	entries := someEntries(90)
	for _, g := range growths() {
		if g[1] > 32 && g[0]%5 > 1 {
			continue
		}
		older, newer := entries[:g[0]], entries[:g[1]]
		for _, path := range neededToGrow(t, older, newer) {
			for k := range pieces(path) {
				r := roadTo(nil)
				c := clientFrom(t, r, older, newer, 1000)
				what := fmt.Sprintf("from %d to %d, %s turned at %d", g[0], g[1], path, k)
				r.lie(path, lie{turnedAt(path, r.files[path], k), nil})
				if _, err := c.Update(); err != nil {
					r.tellTheTruth()
					wantUpdate(t, what, c, newer, wantProof(newer, g[0]))
				}
				wantTruthBehind(t, what, r, c, newer, g[0])
			}
		}
	}
}

// The call right behind the one that the lie passed by is answered, whichever it is: what another call between them might put right does not count.

func TestTheReadRightBehindALieBesideTheEntry(t *testing.T) {
	for _, n := range []int{2, 4, 5, 7, 11, 16, 21, 23, 64} {
		entries := someEntries(n)
		for _, i := range someOf(n) {
			for _, path := range neededBy(t, entries, i) {
				level, index, width, _ := tiles.Parse(path)
				for k := range width {
					if takenToRead(i, level, index*4+k) {
						continue
					}
					for _, j := range someOf(n) {
						r := roadTo(entries)
						r.lie(path, lie{turnedAt(path, r.files[path], k), nil})
						c := clientAt(t, r, 16)
						c.Read(i)
						r.tellTheTruth()
						wantRead(t, fmt.Sprintf("of %d, right behind Read(%d) with %s turned at %d", n, i, path, k), c, entries, j)
					}
				}
			}
		}
	}
}

func TestTheReadRightBehindALieBesideTheProof(t *testing.T) {
	entries := someEntries(90)
	for _, g := range growths() {
		older, newer := entries[:g[0]], entries[:g[1]]
		for _, path := range neededToGrow(t, older, newer) {
			level, index, width, _ := tiles.Parse(path)
			for k := range width {
				if takenToGrow(g[0], level, index*4+k) {
					continue
				}
				for _, j := range someOf(g[1]) {
					r := roadTo(nil)
					c := clientFrom(t, r, older, newer, 16)
					r.lie(path, lie{turnedAt(path, r.files[path], k), nil})
					c.Update()
					r.tellTheTruth()
					wantRead(t, fmt.Sprintf("right behind Update from %d to %d with %s turned at %d", g[0], g[1], path, k), c, newer, j)
				}
			}
		}
	}
}

func TestTheUpdateRightBehindALieBesideTheProof(t *testing.T) {
	entries := someEntries(90)
	for _, g := range growths() {
		older, newer := entries[:g[0]], entries[:g[1]]
		for _, path := range neededToGrow(t, older, newer) {
			for k := range pieces(path) {
				for _, n := range []int{g[1] + 1, g[1] + 3, 90} {
					if n <= g[1] {
						continue
					}
					r := roadTo(nil)
					c := clientFrom(t, r, older, newer, 16)
					r.lie(path, lie{turnedAt(path, r.files[path], k), nil})
					c.Update()
					r.tellTheTruth()
					trusted := c.Trusted().Size
					r.grow(entries[:n])
					wantUpdate(t, fmt.Sprintf("right behind one from %d to %d with %s turned at %d", g[0], g[1], path, k), c, entries[:n], wantProof(entries[:n], trusted))
				}
			}
		}
	}
}

// What has fitted stays, though the file is fetched once more for what did not, and comes with a lie where it was right.
func TestWhatHasFittedStaysIfTheRestOfItsFileIsFetched(t *testing.T) {
	for _, n := range []int{4, 7, 16, 23} {
		entries := someEntries(n)
		path := wantName(-1, 0, min(n, 4))
		for i := range 4 {
			for j := range 4 {
				if i == j {
					continue
				}
				r := roadTo(entries)
				c := clientAt(t, r, 16)
				what := fmt.Sprintf("of %d, %d then %d", n, i, j)
				r.lie(path, lie{turnedAt(path, r.files[path], j), nil})
				wantRead(t, what, c, entries, i)
				r.lie(path, lie{turnedAt(path, r.files[path], i), nil})
				wantFetched(t, what, r, []string{path}, func() { wantRead(t, what, c, entries, j) })
				wantFetched(t, what, r, nil, func() { wantRead(t, what+", once more", c, entries, i) })
				wantFetched(t, what, r, nil, func() { wantRead(t, what+", once more", c, entries, j) })
			}
		}
	}
}

// All files at once are lies in just the places that the call does not look at.
func TestManyLiesBesideTheEntryAreNotRemembered(t *testing.T) {
	for _, n := range edgeSizes() {
		entries := someEntries(n)
		for _, i := range someOf(n) {
			r := roadTo(entries)
			c := clientAt(t, r, 1000)
			for _, path := range neededBy(t, entries, i) {
				data := r.files[path]
				level, index, width, _ := tiles.Parse(path)
				for k := range width {
					if !takenToRead(i, level, index*4+k) {
						data = turnedAt(path, data, k)
					}
				}
				r.lie(path, lie{data, nil})
			}
			what := fmt.Sprintf("of %d, all lies beside %d", n, i)
			wantRead(t, what, c, entries, i)
			wantTruthBehind(t, what, r, c, entries, i)
		}
	}
}

// A call with an error leaves what was remembered ahead of it as it was.
func TestWhatHasFittedStaysBehindLies(t *testing.T) {
	entries := someEntries(64)
	r := roadTo(entries)
	c := clientAt(t, r, 16)
	wantRead(t, "the first", c, entries, 5)
	for _, i := range []int{4, 6, 7, 0, 9, 20, 63} {
		for _, path := range neededBy(t, entries, i) {
			for what, l := range misformed(path, r.files[path]) {
				r.lie(path, l)
				c.Read(i)
				wantFetched(t, path+" "+what, r, nil, func() { wantRead(t, what, c, entries, 5) })
			}
			r.lie(path, lie{turnedAt(path, r.files[path], 0), nil})
			c.Read(i)
			wantFetched(t, path+" turned", r, nil, func() { wantRead(t, "turned", c, entries, 5) })
			delete(r.lies, path)
		}
	}
}

func TestWhatIsRememberedIsReadWithoutATransportThatAnswers(t *testing.T) {
	entries := someEntries(23)
	r := roadTo(entries)
	c := clientAt(t, r, 1000)
	for i := range entries {
		wantRead(t, "the first time", c, entries, i)
	}
	clear(r.files)
	for i := range entries {
		wantRead(t, "with nothing there", c, entries, i)
	}
	wantNoUpdate(t, "with nothing there", c, api.ErrCheckpoint)
	wantTrusted(t, "with nothing there", c, trustedOf(entries))
}

// What was remembered of an older size is right in a newer one too; files that have grown have other names.
func TestReadBehindUpdate(t *testing.T) {
	entries := someEntries(many)
	for _, capacity := range []int{0, 1, 5, 16, 1000} {
		r := roadTo(entries[:1])
		c := clientAt(t, r, capacity)
		for n := 2; n <= many; n++ {
			r.grow(entries[:n])
			wantUpdate(t, "one by one", c, entries[:n], wantProof(entries[:n], n-1))
			for _, i := range someOf(n) {
				wantRead(t, fmt.Sprintf("one by one, of %d", n), c, entries[:n], i)
			}
		}
	}
}

// narrow is a road that only one may go at a time, and that takes a while, so that others come up to whoever is on it.
type narrow struct {
	road
	inside  atomic.Int32
	crowded atomic.Bool
}

func (w *narrow) Fetch(path string) ([]byte, error) {
	if w.inside.Add(1) > 1 {
		w.crowded.Store(true)
	}
	defer w.inside.Add(-1)
	for range 20 {
		runtime.Gosched()
	}
	data, err := w.road.Fetch(path)
	return slices.Clone(data), err
}

func TestManyGoroutinesAskOneClient(t *testing.T) {
	entries := someEntries(85)
	for _, capacity := range []int{0, 3, 16, 1000} {
		w := &narrow{road: *roadTo(entries[:60])}
		c := tiles.NewClient(w, "k", capacity)
		if _, err := c.Update(); err != nil {
			t.Fatalf("P17: Update = %v", err)
		}
		w.grow(entries)
		var group sync.WaitGroup
		for g := range 16 {
			group.Go(func() {
				for k := range 30 {
					askAtOnce(t, c, entries, (g*31+k*7)%60, k)
				}
			})
		}
		group.Wait()
		if w.crowded.Load() {
			t.Error("P19: the transport is asked by several goroutines at once")
		}
		wantTrusted(t, "behind many", c, trustedOf(entries))
	}
}

// askAtOnce asks while others do: what comes out is right for one of the two sizes.
func askAtOnce(t *testing.T, c *tiles.Client, entries [][]byte, i, k int) {
	older, newer := trustedOf(entries[:60]), trustedOf(entries)
	before := c.Trusted()
	if k == 15 {
		if proof, err := c.Update(); err != nil || len(proof) > 0 && !slices.Equal(proof, wantProof(entries, 60)) {
			t.Errorf("P17: one of many: Update = %x, %v", proof, err)
		}
		before = newer
	}
	entry, path, err := c.Read(i)
	if err != nil || string(entry) != string(entries[i]) {
		t.Errorf("P18: one of many: Read(%d) = %q, %v", i, entry, err)
	}
	inNewer := slices.Equal(path, wantPath(entries, i))
	inOlder := before == older && slices.Equal(path, wantPath(entries[:60], i))
	if !inNewer && !inOlder {
		t.Errorf("P18: one of many: Read(%d) has the path %x", i, path)
	}
	if got := c.Trusted(); got != newer && (got != older || before == newer) {
		t.Errorf("P16: one of many: trusted is %v, it was %v", got, before)
	}
}
