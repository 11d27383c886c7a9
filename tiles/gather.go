package tiles

import (
	"errors"
	"math/bits"

	"tiles/api"
)

// place is a tile or bundle, with the width that it has in a size.
type place struct{ level, index, width int }

// placeIn is the file of a size in which a hash of a level (or an entry) stands, by its number.
func placeIn(size, level, number int) place {
	index := number / api.Width
	return place{level, index, min(countAt(level, size)-index*api.Width, api.Width)}
}

// file is what there is of a tile's hashes or a bundle's entries.
type file [api.Width]piece

// piece is one of them. A proof tells only of the pieces that it is made of: the others in a file may be lies all the same, so that each one is known to fit by itself.
type piece struct {
	there bool
	fits  bool // it has fitted a proof, or will have if the call under way is answered
	hash  api.Hash
	entry []byte // of a bundle; hash is then its leaf
}

// fill takes in what has come, but for pieces that have fitted already.
func (f *file) fill(came file) {
	for k := range f {
		if !f[k].fits {
			f[k] = came[k]
		}
	}
}

// fitting is the file without what has not fitted.
func (f file) fitting() file {
	for k := range f {
		if !f[k].fits {
			f[k] = piece{}
		}
	}
	return f
}

// root is that of a tile's hashes; false, if they are not four that fit.
func (f file) root() (api.Hash, bool) {
	for k := range f {
		if !f[k].fits {
			return api.Hash{}, false
		}
	}
	return node(node(f[0].hash, f[1].hash), node(f[2].hash, f[3].hash)), true
}

// read takes a file apart; false, if it has not the form of what should stand there.
func (at place) read(data []byte) (file, bool) {
	if at.level == bundleLevel {
		return readBundle(at.width, data)
	}
	return readTile(at.width, data)
}

func readBundle(width int, data []byte) (f file, ok bool) {
	entries, ok := unbundleOf(width, data)
	for k, entry := range entries {
		f[k] = piece{there: true, hash: Leaf(entry), entry: entry}
	}
	return f, ok
}

func readTile(width int, data []byte) (f file, ok bool) {
	if len(data) != width*len(api.Hash{}) {
		return file{}, false
	}
	for k := range width {
		f[k].there = true
		data = data[copy(f[k].hash[:], data):]
	}
	return f, true
}

// fetch is the file at a path; false, if that fails. A transport is not the program's, so that it may also panic: nothing has come then.
func (c *Client) fetch(path string) (data []byte, ok bool) {
	if c.transport == nil {
		return nil, false
	}
	defer func() {
		if recover() != nil {
			data, ok = nil, false
		}
	}()
	data, err := c.transport.Fetch(path)
	return data, err == nil
}

// fetchPlace fetches a tile or bundle by its Name.
func (c *Client) fetchPlace(at place) (file, error) {
	path := Name(at.level, at.index, at.width)
	data, ok := c.fetch(path)
	f, formed := at.read(data)
	if !ok || !formed {
		return file{}, &api.PathError{Path: path, Err: api.ErrTile}
	}
	return f, nil
}

// fetchFile fetches a tile or bundle. If it is not to be had with its own width, the whole one may be, once the log has grown.
func (c *Client) fetchFile(at place) (file, error) {
	f, err := c.fetchPlace(at)
	if !errors.Is(err, api.ErrTile) || at.width == api.Width {
		return f, err
	}
	whole, wholeErr := c.fetchPlace(place{at.level, at.index, api.Width})
	if wholeErr != nil {
		return file{}, err
	}
	clear(whole[at.width:])
	return whole, nil
}

// need is a hash of a level (or an entry), by its number, out of what is remembered, or else fetched. The answer of the call hangs on it from here on.
func (c *Client) need(size, level, number int) (piece, error) {
	at, k := placeIn(size, level, number), number%api.Width
	f, ok := c.needed.get(at)
	if !ok {
		known, _ := c.proved.get(at)
		f = &known
	}
	if !f[k].there {
		came, err := c.fetchFile(at)
		if err != nil {
			return piece{}, err
		}
		f.fill(came)
	}
	f[k].fits = true
	c.needed.put(at, f)
	return f[k], nil
}

// root is that of a span of a size, out of tiles.
func (c *Client) root(size int, s span) (api.Hash, error) {
	level := bits.TrailingZeros(uint(s.count)) / 2
	if countAt(level, s.count) == 1 {
		p, err := c.need(size, level, countAt(level, s.first))
		return p.hash, err
	}
	left, right := s.halves()
	a, err := c.root(size, left)
	if err != nil {
		return api.Hash{}, err
	}
	b, err := c.root(size, right)
	if err != nil {
		return api.Hash{}, err
	}
	return node(a, b), nil
}

func (c *Client) roots(size int, spans []span) ([]api.Hash, error) {
	var roots []api.Hash
	for _, s := range spans {
		h, err := c.root(size, s)
		if err != nil {
			return nil, err
		}
		roots = append(roots, h)
	}
	return roots, nil
}

// remember keeps what the call has needed: its proof has fitted.
func (c *Client) remember() {
	for at, f := range c.needed.all() {
		c.proved.put(at, f.fitting())
	}
}

// settle: a hash is known to fit, though the proof did not take it out of its tile but made it of others. So is the one above it, of which it is a quarter.
func (c *Client) settle(size, level, number int, h api.Hash) {
	f, ok := c.needed.get(placeIn(size, level, number))
	if !ok {
		return
	}
	f[number%api.Width] = piece{there: true, fits: true, hash: h}
	if up, ok := f.root(); ok {
		c.settle(size, level+1, number/api.Width, up)
	}
}

// settleEntry: what is known to fit with entry i: its leaf, and the entries beside it whose leaves fit.
func (c *Client) settleEntry(size, i int, leaf api.Hash) {
	c.settle(size, 0, i, leaf)
	bundle, _ := c.needed.get(placeIn(size, bundleLevel, i))
	leaves, ok := c.needed.get(placeIn(size, 0, i))
	if !ok {
		return
	}
	for k := range bundle {
		if bundle[k].there && leaves[k].fits && bundle[k].hash == leaves[k].hash {
			bundle[k].fits = true
		}
	}
}

// settleOlder: what is known to fit with an older root, of which a newer one is made: the greatest full part at the end of the older entries. If it is all of them, no proof takes its hashes out of their tile.
func (c *Client) settleOlder(size int, older api.Trusted) {
	level := bits.TrailingZeros(uint(older.Size)) / 2
	last := countAt(level, older.Size) - 1
	f, ok := c.needed.get(placeIn(size, level, last))
	if !ok {
		return
	}
	h := f[last%api.Width].hash
	switch last {
	case 0:
		h = older.Root
	case 1:
		if node(f[0].hash, h) != older.Root {
			return
		}
		f[0].fits = true
	}
	c.settle(size, level, last, h)
}
