package tiles_test

import (
	"bytes"
	"errors"
	"maps"
	"slices"
	"testing"

	"tiles/api"
	"tiles/tiles"
)

var errLost = errors.New("the road is lost")

// road is a transport that notes how it is asked, and lies as it is told. It spoils what it has handed out as soon as it is asked again, as a transport may.
type road struct {
	files   map[string][]byte
	lies    map[string]lie
	fetched []string
	handed  []byte
	before  []byte // handed, as it was when it was handed out
	written []string
}

// lie is what comes instead of a file; it comes with an error, if there is one.
type lie struct {
	data []byte
	err  error
}

// roadTo is the road to a log of these entries.
func roadTo(entries [][]byte) *road {
	r := &road{lies: map[string]lie{}}
	r.grow(entries)
	return r
}

// grow: the log has these entries now, and only the files of their number.
func (r *road) grow(entries [][]byte) { r.files = shelfOf(entries, "k").files }

// shrink: the checkpoint is that of fewer entries, though the log has grown.
func (r *road) shrink(entries [][]byte) {
	r.files["checkpoint"] = []byte(wantCheckpoint(entries, "k"))
}

func (r *road) lie(path string, l lie) { r.lies[path] = l }

func (r *road) tellTheTruth() { clear(r.lies) }

func (r *road) Fetch(path string) ([]byte, error) {
	r.fetched = append(r.fetched, path)
	r.spoil()
	l, lies := r.lies[path]
	if !lies {
		data, ok := r.files[path]
		l.data = data
		if !ok {
			l.err = errLost
		}
	}
	if l.data == nil {
		return nil, l.err
	}
	r.handed = append(make([]byte, 0, len(l.data)+8), l.data...)
	r.before = bytes.Clone(r.handed[:cap(r.handed)])
	return r.handed, l.err
}

// spoil: what was handed out is the road's own again.
func (r *road) spoil() {
	if !bytes.Equal(r.handed[:cap(r.handed)], r.before) {
		r.written = append(r.written, r.fetched...)
	}
	for k := range r.handed[:cap(r.handed)] {
		r.handed[:cap(r.handed)][k] = 0xaa
	}
	r.before = bytes.Clone(r.handed[:cap(r.handed)])
}

// asked is what a call fetches.
func (r *road) asked(call func()) []string {
	r.fetched = nil
	call()
	return r.fetched
}

func newClient(r *road, capacity int) *tiles.Client { return tiles.NewClient(r, "k", capacity) }

// clientAt trusts what the road leads to.
func clientAt(t *testing.T, r *road, capacity int) *tiles.Client {
	t.Helper()
	c := newClient(r, capacity)
	if proof, err := c.Update(); len(proof) != 0 || err != nil {
		t.Fatalf("P17: the first Update = %x, %v", proof, err)
	}
	return c
}

// clientFrom trusts the older entries, and the road leads to the newer ones.
func clientFrom(t *testing.T, r *road, older, newer [][]byte, capacity int) *tiles.Client {
	t.Helper()
	r.grow(older)
	c := clientAt(t, r, capacity)
	r.grow(newer)
	return c
}

func trustedOf(entries [][]byte) api.Trusted {
	return api.Trusted{Size: len(entries), Root: wantRoot(entries)}
}

func wantTrusted(t *testing.T, what string, c *tiles.Client, want api.Trusted) {
	t.Helper()
	if got := c.Trusted(); got != want {
		t.Errorf("P17: %s: trusted is %v, want %v", what, got, want)
	}
}

// wantUpdate: Update is answered, with just these hashes, and the entries are trusted.
func wantUpdate(t *testing.T, what string, c *tiles.Client, entries [][]byte, proof []api.Hash) {
	t.Helper()
	if got, err := c.Update(); err != nil || !slices.Equal(got, proof) {
		t.Errorf("P17: %s: Update = %x, %v, want %x", what, got, err, proof)
	}
	wantTrusted(t, what, c, trustedOf(entries))
}

// wantNoUpdate: Update answers just that error by itself, and what is trusted stays.
func wantNoUpdate(t *testing.T, what string, c *tiles.Client, want error) {
	t.Helper()
	before := c.Trusted()
	if got, err := c.Update(); got != nil || err != want {
		t.Errorf("P17: %s: Update = %x, %v, want %v", what, got, err, want)
	}
	wantTrusted(t, what, c, before)
}

// wantNoUpdateAt: Update answers ErrTile at a path, and what is trusted stays.
func wantNoUpdateAt(t *testing.T, what string, c *tiles.Client, path string) {
	t.Helper()
	before := c.Trusted()
	if got, err := c.Update(); got != nil || !isPathError(err, path, api.ErrTile) {
		t.Errorf("P17: %s: Update = %x, %v, want ErrTile at %s", what, got, err, path)
	}
	wantTrusted(t, what, c, before)
}

// wantRead: Read is answered, with that entry and just the hashes of its Path.
func wantRead(t *testing.T, what string, c *tiles.Client, entries [][]byte, i int) {
	t.Helper()
	entry, path, err := c.Read(i)
	if err != nil || !bytes.Equal(entry, entries[i]) || !slices.Equal(path, wantPath(entries, i)) {
		t.Errorf("P18: %s: Read(%d) = %q, %x, %v, want %q, %x", what, i, entry, path, err, entries[i], wantPath(entries, i))
	}
}

func wantNoRead(t *testing.T, what string, c *tiles.Client, i int, want error) {
	t.Helper()
	if entry, path, err := c.Read(i); entry != nil || path != nil || err != want {
		t.Errorf("P18: %s: Read(%d) = %q, %x, %v, want %v", what, i, entry, path, err, want)
	}
}

func wantNoReadAt(t *testing.T, what string, c *tiles.Client, i int, path string) {
	t.Helper()
	if entry, hashes, err := c.Read(i); entry != nil || hashes != nil || !isPathError(err, path, api.ErrTile) {
		t.Errorf("P18: %s: Read(%d) = %q, %x, %v, want ErrTile at %s", what, i, entry, hashes, err, path)
	}
}

// neededBy is what Read of an entry fetches, if nothing is remembered.
func neededBy(t *testing.T, entries [][]byte, i int) []string {
	t.Helper()
	r := roadTo(entries)
	c := clientAt(t, r, 0)
	return r.asked(func() { wantRead(t, "with nothing remembered", c, entries, i) })
}

// neededToGrow is what Update fetches behind the checkpoint, if nothing is remembered.
func neededToGrow(t *testing.T, older, newer [][]byte) []string {
	t.Helper()
	r := roadTo(nil)
	c := clientFrom(t, r, older, newer, 0)
	fetched := r.asked(func() { wantUpdate(t, "with nothing remembered", c, newer, wantProof(newer, len(older))) })
	if len(fetched) == 0 || fetched[0] != "checkpoint" {
		t.Fatalf("P17: Update fetches %q", fetched)
	}
	return fetched[1:]
}

// filesOf are the paths of the files of a log.
func filesOf(entries [][]byte) []string { return slices.Sorted(maps.Keys(shelfOf(entries, "k").files)) }

// pieces are how many hashes or entries a file has.
func pieces(path string) int {
	_, _, width, _ := tiles.Parse(path)
	return width
}

// turnedAt is a file with the k-th of its hashes or entries turned, in its right form.
func turnedAt(path string, data []byte, k int) []byte {
	data = bytes.Clone(data)
	if level, _, _, _ := tiles.Parse(path); level >= 0 {
		data[8*k+k] ^= 1
		return data
	}
	entries, _ := tiles.Unbundle(data)
	entries[k] = append([]byte("no "), entries[k]...)
	return wantBundle(entries)
}

// wholeName is the path of a file with the width 4.
func wholeName(path string) string {
	level, index, _, _ := tiles.Parse(path)
	return wantName(level, index, 4)
}

// misformed are answers that can't be the file at a path, whatever the log has.
func misformed(path string, data []byte) map[string]lie {
	out := map[string]lie{
		"lost":                  {nil, errLost},
		"with an error":         {data, errLost},
		"with a known error":    {data, api.ErrProof},
		"nil":                   {nil, nil},
		"empty":                 {[]byte{}, nil},
		"a byte short":          {data[:len(data)-1], nil},
		"without its beginning": {data[1:], nil},
		"a byte long":           {slices.Concat(data, []byte{7}), nil},
		"twice":                 {slices.Concat(data, data, data, data, data), nil},
	}
	if level, _, width, _ := tiles.Parse(path); level >= 0 {
		out["a hash short"] = lie{data[:len(data)-8], nil}
		out["a hash long"] = lie{slices.Concat(data, data[:8]), nil}
	} else {
		entries, _ := tiles.Unbundle(data)
		out["an entry short"] = lie{wantBundle(entries[:width-1]), nil}
		out["an entry long"] = lie{wantBundle(append(entries, []byte("x"))), nil}
		out["with too long an entry"] = lie{wantBundle(append(entries[:width-1:width-1], make([]byte, 21))), nil}
	}
	return out
}
