package tiles_test

// What the calls should answer, got by other ways than theirs: the library's FNV-1a for the hash, and whole levels of the tree, from the leaves up, for roots and proofs.

import (
	"bytes"
	"fmt"
	"hash/fnv"
	"math/bits"
	"slices"
	"strconv"

	"tiles/api"
)

// many is more sizes than any tree shape of up to six levels needs.
const many = 70

func someEntries(n int) [][]byte {
	var list [][]byte
	for i := range n {
		list = append(list, []byte("entry "+strconv.Itoa(i)))
	}
	return list
}

func textEntries(texts ...string) [][]byte {
	var list [][]byte
	for _, s := range texts {
		list = append(list, []byte(s))
	}
	return list
}

func wantHash(data ...byte) (h api.Hash) {
	f := fnv.New64a()
	f.Write(data)
	copy(h[:], f.Sum(nil))
	return h
}

func wantLeaf(entry []byte) api.Hash { return wantHash(append([]byte{0}, entry...)...) }

func wantNode(a, b api.Hash) api.Hash {
	return wantHash(append(append([]byte{1}, a[:]...), b[:]...)...)
}

// wantLevels: the leaves, then ever the nodes of two and two (one that is left over goes up as it is), up to the root. There must be an entry.
func wantLevels(entries [][]byte) [][]api.Hash {
	var row []api.Hash
	for _, e := range entries {
		row = append(row, wantLeaf(e))
	}
	levels := [][]api.Hash{row}
	for len(row) > 1 {
		var up []api.Hash
		for i := 0; i < len(row); i += 2 {
			if i+1 < len(row) {
				up = append(up, wantNode(row[i], row[i+1]))
			} else {
				up = append(up, row[i])
			}
		}
		row = up
		levels = append(levels, row)
	}
	return levels
}

func wantRoot(entries [][]byte) api.Hash {
	if len(entries) == 0 {
		return wantHash()
	}
	levels := wantLevels(entries)
	return levels[len(levels)-1][0]
}

// climb: the neighbours on the way from one place of a level to the root.
func climb(levels [][]api.Hash, level, i int) []api.Hash {
	var out []api.Hash
	for ; level < len(levels); level++ {
		if beside := i ^ 1; beside < len(levels[level]) {
			out = append(out, levels[level][beside])
		}
		i /= 2
	}
	return out
}

func wantPath(entries [][]byte, i int) []api.Hash { return climb(wantLevels(entries), 0, i) }

// wantProof: the greatest full part that ends at m (left out if it is all of m), and the way from there.
func wantProof(entries [][]byte, m int) []api.Hash {
	if m == len(entries) {
		return nil
	}
	levels := wantLevels(entries)
	level := bits.TrailingZeros(uint(m))
	i := m>>level - 1
	way := climb(levels, level, i)
	if i == 0 {
		return way
	}
	return append([]api.Hash{levels[level][i]}, way...)
}

// file is what a store should be asked to put.
type file struct{ path, data string }

func wantBundles(entries [][]byte) []file {
	var out []file
	for group := range slices.Chunk(entries, 4) {
		out = append(out, file{wantName(-1, len(out), len(group)), string(wantBundle(group))})
	}
	return out
}

// wantTiles cuts the entries into pieces of 1, 4, 16 .. (what is left over has no hash), and the roots of these into fours.
func wantTiles(entries [][]byte) []file {
	var out []file
	for level, span := 0, 1; span <= len(entries); level, span = level+1, span*4 {
		var row [][]byte
		for piece := range slices.Chunk(entries, span) {
			if len(piece) == span {
				h := wantRoot(piece)
				row = append(row, h[:])
			}
		}
		index := 0
		for group := range slices.Chunk(row, 4) {
			out = append(out, file{wantName(level, index, len(group)), string(bytes.Join(group, nil))})
			index++
		}
	}
	return out
}

func wantCheckpoint(entries [][]byte, key string) string {
	return signed(fmt.Sprintf("tiles\n%d\n%x\n", len(entries), wantRoot(entries)), key)
}
