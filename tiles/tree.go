// Package tiles: a log whose entries can be proved: see DOC.md.
package tiles

import (
	"math/bits"

	"tiles/api"
)

// Leaf is the hash of an entry (P3).
func Leaf(entry []byte) api.Hash { return hashOf([]byte{leafMark}, entry) }

// Root is the root of entries (P3).
func Root(entries [][]byte) api.Hash {
	switch len(entries) {
	case 0:
		return hashOf()
	case 1:
		return Leaf(entries[0])
	}
	k := split(len(entries))
	return node(Root(entries[:k]), Root(entries[k:]))
}

// Path proves that an entry is among others (P4).
func Path(entries [][]byte, i int) ([]api.Hash, error) {
	if i < 0 || i >= len(entries) {
		return nil, api.ErrRange
	}
	return rootsOf(entries, pathTo(span{0, len(entries)}, i)), nil
}

// Included checks such a proof (P5).
func Included(leaf api.Hash, i int, n int, path []api.Hash, root api.Hash) bool {
	if i < 0 || i >= n {
		return false
	}
	rebuilt, ok := rebuildRoot(leaf, i, n, path)
	return ok && rebuilt == root
}

// Proof proves that entries begin with the first ones of them (P6).
func Proof(entries [][]byte, m int) ([]api.Hash, error) {
	if m < 1 || m > len(entries) {
		return nil, api.ErrRange
	}
	return rootsOf(entries, part(m, span{0, len(entries)}, true)), nil
}

// Consistent checks such a proof (P7).
func Consistent(m int, n int, a api.Hash, b api.Hash, proof []api.Hash) bool {
	if m < 1 || m > n {
		return false
	}
	older, newer, ok := rebuildRoots(m, n, a, proof, true)
	return ok && older == a && newer == b
}

// split is the greatest power of 2 below n, which must be at least 2. It is taken from the bits of n: a loop that doubles would overflow at the greatest int.
func split(n int) int { return 1 << (bits.Len(uint(n-1)) - 1) }

// span is a run of entries that is a tree within the tree of all. Path and Proof are told as spans: their roots can be had from the entries themselves, and from tiles.
type span struct{ first, count int }

func (s span) end() int { return s.first + s.count }

// halves are the two of which the root of a span, which must have at least two entries, is the node.
func (s span) halves() (left, right span) {
	k := split(s.count)
	return span{s.first, k}, span{s.first + k, s.count - k}
}

// rootsOf are the roots of spans of entries.
func rootsOf(entries [][]byte, spans []span) []api.Hash {
	var roots []api.Hash
	for _, s := range spans {
		roots = append(roots, Root(entries[s.first:s.end()]))
	}
	return roots
}

// pathTo is Path of an entry that is in the span.
func pathTo(s span, i int) []span {
	if s.count == 1 {
		return nil
	}
	left, right := s.halves()
	if i < left.end() {
		return append(pathTo(left, i), right)
	}
	return append(pathTo(right, i), left)
}

// part is PART of P6 for the entries ahead of entry m, which end within the span or with it. While whole is true, they begin with the span: the older root is of just them, so that the one who checks has their root already.
func part(m int, s span, whole bool) []span {
	if m == s.end() {
		if whole {
			return nil
		}
		return []span{s}
	}
	left, right := s.halves()
	if m <= left.end() {
		return append(part(m, left, whole), right)
	}
	return append(part(m, right, false), left)
}

// rebuildRoot is what P5 rebuilds, for i from 0 to n - 1; false: nothing.
func rebuildRoot(leaf api.Hash, i, n int, path []api.Hash) (api.Hash, bool) {
	if n == 1 {
		return leaf, len(path) == 0
	}
	if len(path) == 0 {
		return api.Hash{}, false
	}
	rest, last := cutLast(path)
	k := split(n)
	if i < k {
		left, ok := rebuildRoot(leaf, i, k, rest)
		return node(left, last), ok
	}
	right, ok := rebuildRoot(leaf, i-k, n-k, rest)
	return node(last, right), ok
}

// rebuildRoots is what P7 rebuilds, for m from 1 to n: the root of the first m and that of all n; false: nothing.
func rebuildRoots(m, n int, a api.Hash, proof []api.Hash, whole bool) (older, newer api.Hash, ok bool) {
	if m == n {
		return rebuildSame(a, proof, whole)
	}
	if len(proof) == 0 {
		return api.Hash{}, api.Hash{}, false
	}
	rest, last := cutLast(proof)
	k := split(n)
	if m <= k {
		older, newer, ok = rebuildRoots(m, k, a, rest, whole)
		return older, node(newer, last), ok
	}
	older, newer, ok = rebuildRoots(m-k, n-k, a, rest, false)
	return node(last, older), node(last, newer), ok
}

// rebuildSame is rebuildRoots where both roots are of the same entries.
func rebuildSame(a api.Hash, proof []api.Hash, whole bool) (older, newer api.Hash, ok bool) {
	if whole {
		return a, a, len(proof) == 0
	}
	if len(proof) != 1 {
		return api.Hash{}, api.Hash{}, false
	}
	return proof[0], proof[0], true
}

// cutLast parts a list, which must not be empty, from its last hash.
func cutLast(list []api.Hash) (rest []api.Hash, last api.Hash) {
	end := len(list) - 1
	return list[:end], list[end]
}
