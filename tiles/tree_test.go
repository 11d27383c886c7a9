package tiles_test

import (
	"bytes"
	"encoding/hex"
	"math"
	"math/bits"
	"slices"
	"testing"

	"tiles/api"
	"tiles/tiles"
)

// P3

func TestLeafAndRootOfTheExamples(t *testing.T) {
	for _, c := range []struct {
		got  api.Hash
		want string
	}{
		{tiles.Root(nil), "cbf29ce484222325"},
		{tiles.Root([][]byte{}), "cbf29ce484222325"},
		{tiles.Leaf([]byte("a")), "08326707b4eb37da"},
		{tiles.Root(textEntries("a")), "08326707b4eb37da"},
		{tiles.Root(textEntries("a", "b", "c")), "b3df761833190597"},
	} {
		if hex.EncodeToString(c.got[:]) != c.want {
			t.Errorf("P3: %x, want %s", c.got, c.want)
		}
	}
}

func TestLeafOfAnyBytes(t *testing.T) {
	every := make([]byte, 256)
	for i := range every {
		every[i] = byte(i)
	}
	for _, entry := range [][]byte{nil, {}, {0}, {1}, {0, 0}, {255}, []byte("twenty bytes of text"), []byte("twenty-one bytes, now"), every, bytes.Repeat([]byte{128}, 1<<16)} {
		if got := tiles.Leaf(entry); got != wantLeaf(entry) {
			t.Errorf("P3: Leaf of %d bytes = %x, want %x", len(entry), got, wantLeaf(entry))
		}
	}
}

func TestRootOfManySizes(t *testing.T) {
	for n := range many {
		list := someEntries(n)
		if got := tiles.Root(list); got != wantRoot(list) {
			t.Errorf("P3: Root of %d = %x, want %x", n, got, wantRoot(list))
		}
	}
}

func TestRootTellsEntriesApart(t *testing.T) {
	lists := [][][]byte{
		nil, textEntries(""), textEntries("", ""), textEntries("a"), textEntries("a", ""), textEntries("", "a"),
		textEntries("a", "b"), textEntries("b", "a"), textEntries("ab"), textEntries("a", "b", "b"), textEntries("a", "b", "a", "b"),
	}
	for i, one := range lists {
		for _, other := range lists[:i] {
			if tiles.Root(one) == tiles.Root(other) {
				t.Errorf("P3: %q and %q have one root", one, other)
			}
		}
	}
}

// P4

func TestPathOfSmallTrees(t *testing.T) {
	l := someEntries(7)
	for _, c := range []struct {
		n, i int
		want []api.Hash
	}{
		{1, 0, nil},
		{2, 0, []api.Hash{wantLeaf(l[1])}},
		{2, 1, []api.Hash{wantLeaf(l[0])}},
		{3, 0, []api.Hash{wantLeaf(l[1]), wantLeaf(l[2])}},
		{3, 2, []api.Hash{wantRoot(l[:2])}},
		{5, 3, []api.Hash{wantLeaf(l[2]), wantRoot(l[:2]), wantLeaf(l[4])}},
		{5, 4, []api.Hash{wantRoot(l[:4])}},
		{7, 4, []api.Hash{wantLeaf(l[5]), wantLeaf(l[6]), wantRoot(l[:4])}},
		{7, 6, []api.Hash{wantRoot(l[4:6]), wantRoot(l[:4])}},
	} {
		if got, err := tiles.Path(l[:c.n], c.i); err != nil || !slices.Equal(got, c.want) {
			t.Errorf("P4: Path of %d of %d = %x, %v, want %x", c.i, c.n, got, err, c.want)
		}
	}
}

func TestPathOfManySizes(t *testing.T) {
	for n := range many {
		list := someEntries(n)
		for i := range n {
			if got, err := tiles.Path(list, i); err != nil || !slices.Equal(got, wantPath(list, i)) {
				t.Errorf("P4: Path of %d of %d = %x, %v", i, n, got, err)
			}
		}
	}
}

func TestPathOutOfRange(t *testing.T) {
	for n := range many {
		for _, i := range []int{-1, -n - 1, n, n + 1, math.MaxInt, math.MinInt, math.MinInt + n} {
			if got, err := tiles.Path(someEntries(n), i); got != nil || err != api.ErrRange {
				t.Errorf("P4: Path of %d of %d = %x, %v", i, n, got, err)
			}
		}
	}
}

// P5

func TestIncludedOfManySizes(t *testing.T) {
	for n := range many {
		list := someEntries(n)
		root := wantRoot(list)
		for i := range n {
			leaf, path := wantLeaf(list[i]), wantPath(list, i)
			if !tiles.Included(leaf, i, n, path, root) {
				t.Errorf("P5: Included of %d of %d is false", i, n)
			}
			refuseOtherNumbers(t, leaf, i, n, path, root)
			if tiles.Included(turned(leaf), i, n, path, root) || tiles.Included(leaf, i, n, path, turned(root)) {
				t.Errorf("P5: Included of %d of %d with another leaf or root is true", i, n)
			}
			for _, bad := range spoilt(path, root) {
				if tiles.Included(leaf, i, n, bad, root) {
					t.Errorf("P5: Included of %d of %d is true with %x instead of %x", i, n, bad, path)
				}
			}
		}
	}
}

func refuseOtherNumbers(t *testing.T, leaf api.Hash, i, n int, path []api.Hash, root api.Hash) {
	t.Helper()
	for other := -2; other < n+2; other++ {
		if other != i && tiles.Included(leaf, other, n, path, root) {
			t.Errorf("P5: Included of %d of %d is true with the path of %d", other, n, i)
		}
	}
	for _, other := range []int{math.MinInt, math.MinInt + i, i - n, i + n, math.MaxInt} {
		if tiles.Included(leaf, other, n, path, root) {
			t.Errorf("P5: Included of %d of %d is true", other, n)
		}
	}
	for _, size := range []int{math.MinInt, -n, -1, 0, i} {
		if tiles.Included(leaf, i, size, path, root) {
			t.Errorf("P5: Included of %d of %d is true", i, size)
		}
	}
}

// turned is a hash with one bit of it turned over.
func turned(h api.Hash) api.Hash {
	h[7] ^= 1
	return h
}

// spoilt: a proof with a hash too few, too many or another one, or with two of them in each other's place.
func spoilt(proof []api.Hash, extra api.Hash) [][]api.Hash {
	var out [][]api.Hash
	for i := range len(proof) + 1 {
		out = append(out, slices.Insert(slices.Clone(proof), i, extra), slices.Insert(slices.Clone(proof), i, api.Hash{}))
	}
	for i := range proof {
		changed := slices.Clone(proof)
		changed[i] = turned(changed[i])
		out = append(out, changed, slices.Delete(slices.Clone(proof), i, i+1))
		if i > 0 {
			crossed := slices.Clone(proof)
			crossed[i-1], crossed[i] = crossed[i], crossed[i-1]
			out = append(out, crossed)
		}
	}
	if len(proof) > 0 {
		out = append(out, nil)
	}
	return out
}

func TestIncludedOfOneAndNone(t *testing.T) {
	h := api.Hash{1, 2, 3}
	if !tiles.Included(h, 0, 1, nil, h) || !tiles.Included(api.Hash{}, 0, 1, []api.Hash{}, api.Hash{}) {
		t.Error("P5: the leaf of one entry is not its root")
	}
	if tiles.Included(h, 0, 0, nil, h) || tiles.Included(h, 0, 0, nil, wantHash()) || tiles.Included(wantHash(), 0, 0, nil, wantHash()) {
		t.Error("P5: something is included in nothing")
	}
	if tiles.Included(h, 0, 1, []api.Hash{h}, wantNode(h, h)) || tiles.Included(h, 0, 2, nil, h) {
		t.Error("P5: a path of the wrong length is taken")
	}
}

func someHashes(n int) []api.Hash {
	var list []api.Hash
	for i := range n {
		list = append(list, wantHash(byte(i), byte(i>>8)))
	}
	return list
}

// The tree of the greatest int lacks just one entry to be full: the first entry lies a level deeper than the last.
func TestIncludedOfTheGreatestSize(t *testing.T) {
	leaf := wantHash(77)
	first, last := leaf, leaf
	path := someHashes(bits.UintSize - 1)
	for _, h := range path {
		first = wantNode(first, h)
	}
	for _, h := range path[1:] {
		last = wantNode(h, last)
	}
	if !tiles.Included(leaf, 0, math.MaxInt, path, first) || !tiles.Included(leaf, math.MaxInt-1, math.MaxInt, path[1:], last) {
		t.Error("P5: Included of the greatest size is false")
	}
	if tiles.Included(leaf, 0, math.MaxInt, path[1:], first) || tiles.Included(leaf, math.MaxInt-1, math.MaxInt, path, last) || tiles.Included(leaf, math.MaxInt, math.MaxInt, path, first) {
		t.Error("P5: Included of the greatest size, with what does not fit, is true")
	}
}

// P6

func TestProofOfSmallTrees(t *testing.T) {
	l := someEntries(8)
	for _, c := range []struct {
		n, m int
		want []api.Hash
	}{
		{1, 1, nil},
		{2, 1, []api.Hash{wantLeaf(l[1])}},
		{3, 2, []api.Hash{wantLeaf(l[2])}},
		{3, 3, nil},
		{4, 3, []api.Hash{wantLeaf(l[2]), wantLeaf(l[3]), wantRoot(l[:2])}},
		{5, 4, []api.Hash{wantLeaf(l[4])}},
		{7, 3, []api.Hash{wantLeaf(l[2]), wantLeaf(l[3]), wantRoot(l[:2]), wantRoot(l[4:7])}},
		{7, 4, []api.Hash{wantRoot(l[4:7])}},
		{7, 5, []api.Hash{wantLeaf(l[4]), wantLeaf(l[5]), wantLeaf(l[6]), wantRoot(l[:4])}},
		{7, 6, []api.Hash{wantRoot(l[4:6]), wantLeaf(l[6]), wantRoot(l[:4])}},
		{8, 1, []api.Hash{wantLeaf(l[1]), wantRoot(l[2:4]), wantRoot(l[4:])}},
		{8, 6, []api.Hash{wantRoot(l[4:6]), wantRoot(l[6:]), wantRoot(l[:4])}},
	} {
		if got, err := tiles.Proof(l[:c.n], c.m); err != nil || !slices.Equal(got, c.want) {
			t.Errorf("P6: Proof of %d of %d = %x, %v, want %x", c.m, c.n, got, err, c.want)
		}
	}
}

func TestProofOfManySizes(t *testing.T) {
	for n := range many {
		list := someEntries(n)
		for m := 1; m <= n; m++ {
			if got, err := tiles.Proof(list, m); err != nil || !slices.Equal(got, wantProof(list, m)) {
				t.Errorf("P6: Proof of %d of %d = %x, %v", m, n, got, err)
			}
		}
	}
}

func TestProofOutOfRange(t *testing.T) {
	for n := range many {
		for _, m := range []int{0, -1, -n - 1, n + 1, math.MaxInt, math.MinInt, math.MinInt + n} {
			if got, err := tiles.Proof(someEntries(n), m); got != nil || err != api.ErrRange {
				t.Errorf("P6: Proof of %d of %d = %x, %v", m, n, got, err)
			}
		}
	}
}

// P7

func TestConsistentOfManySizes(t *testing.T) {
	for n := range many {
		list := someEntries(n)
		b := wantRoot(list)
		for m := 1; m <= n; m++ {
			a, proof := wantRoot(list[:m]), wantProof(list, m)
			if !tiles.Consistent(m, n, a, b, proof) {
				t.Errorf("P7: Consistent of %d of %d is false", m, n)
			}
			refuseOtherSizes(t, m, n, a, b, proof)
			if tiles.Consistent(m, n, turned(a), b, proof) || tiles.Consistent(m, n, a, turned(b), proof) || m < n && tiles.Consistent(m, n, b, a, proof) {
				t.Errorf("P7: Consistent of %d of %d with other roots is true", m, n)
			}
			for _, bad := range spoilt(proof, b) {
				if tiles.Consistent(m, n, a, b, bad) {
					t.Errorf("P7: Consistent of %d of %d is true with %x instead of %x", m, n, bad, proof)
				}
			}
		}
	}
}

func refuseOtherSizes(t *testing.T, m, n int, a, b api.Hash, proof []api.Hash) {
	t.Helper()
	for _, other := range []int{math.MinInt, math.MinInt + m, m - n - 1, -m, -1, 0, n + 1, n + m, math.MaxInt} {
		if tiles.Consistent(other, n, a, b, proof) {
			t.Errorf("P7: Consistent of %d of %d is true with the proof of %d", other, n, m)
		}
	}
	for other := 1; m < n && other <= n; other++ {
		if other != m && tiles.Consistent(other, n, a, b, proof) {
			t.Errorf("P7: Consistent of %d of %d is true with the proof of %d", other, n, m)
		}
	}
	for _, size := range []int{math.MinInt, -n, -1, 0, m - 1} {
		if tiles.Consistent(m, size, a, b, proof) {
			t.Errorf("P7: Consistent of %d of %d is true", m, size)
		}
	}
}

func TestConsistentOfTheSameSize(t *testing.T) {
	a, b := wantHash(1), wantHash(2)
	for _, n := range []int{1, 2, 3, 4, 5, 8, math.MaxInt - 1, math.MaxInt} {
		if !tiles.Consistent(n, n, a, a, nil) || !tiles.Consistent(n, n, api.Hash{}, api.Hash{}, []api.Hash{}) {
			t.Errorf("P7: Consistent of %d of %d is false", n, n)
		}
		if tiles.Consistent(n, n, a, b, nil) || tiles.Consistent(n, n, a, a, []api.Hash{a}) || tiles.Consistent(n, n, a, b, []api.Hash{b}) {
			t.Errorf("P7: Consistent of %d of %d, with what does not fit, is true", n, n)
		}
	}
	for _, n := range []int{0, -1, math.MinInt} {
		if tiles.Consistent(n, n, a, a, nil) || tiles.Consistent(n, n, wantHash(), wantHash(), nil) {
			t.Errorf("P7: Consistent of %d of %d is true", n, n)
		}
	}
}

// Of a full part the proof does not tell the older root again: the one that is handed in is what the newer one is made of.
func TestConsistentOfAFullPart(t *testing.T) {
	a, r := wantHash(1), wantHash(2)
	for _, c := range []struct{ m, n int }{{1, 2}, {2, 3}, {2, 4}, {4, 5}, {4, 7}, {4, 8}, {64, 100}, {math.MaxInt/2 + 1, math.MaxInt}} {
		if !tiles.Consistent(c.m, c.n, a, wantNode(a, r), []api.Hash{r}) {
			t.Errorf("P7: Consistent of %d of %d is false", c.m, c.n)
		}
		if tiles.Consistent(c.m, c.n, a, wantNode(a, r), []api.Hash{a, r}) || tiles.Consistent(c.m, c.n, r, wantNode(a, r), []api.Hash{r}) || tiles.Consistent(c.m, c.n, a, wantNode(r, a), []api.Hash{r}) {
			t.Errorf("P7: Consistent of %d of %d, with what does not fit, is true", c.m, c.n)
		}
	}
}

func TestConsistentOfTheGreatestSize(t *testing.T) {
	proof := someHashes(bits.UintSize - 1)
	a := wantHash(77)
	b := a
	for _, h := range proof {
		b = wantNode(b, h)
	}
	if !tiles.Consistent(1, math.MaxInt, a, b, proof) || tiles.Consistent(1, math.MaxInt, a, b, proof[1:]) {
		t.Error("P7: Consistent of 1 of the greatest size")
	}
	// The last three entries stand as a tree of their own: two of them come as one hash, the third as the next.
	older, newer := proof[0], wantNode(proof[0], proof[1])
	for _, h := range proof[2:] {
		older, newer = wantNode(h, older), wantNode(h, newer)
	}
	if !tiles.Consistent(math.MaxInt-1, math.MaxInt, older, newer, proof) || tiles.Consistent(math.MaxInt-1, math.MaxInt, older, newer, proof[:len(proof)-1]) {
		t.Error("P7: Consistent of the greatest size less one")
	}
}
