package tiles

import "tiles/api"

const (
	hashStart uint64 = 14695981039346656037
	hashTimes uint64 = 1099511628211
)

// The first byte of what is hashed keeps a leaf from passing for a node.
const (
	leafMark = 0
	nodeMark = 1
)

// stir takes more bytes into a number, so that parts can be hashed one behind the other without a copy of all of them.
func stir(n uint64, data []byte) uint64 {
	for _, b := range data {
		n = (n ^ uint64(b)) * hashTimes
	}
	return n
}

// hashOf is the hash of the parts, as if they were one.
func hashOf(parts ...[]byte) api.Hash {
	n := hashStart
	for _, part := range parts {
		n = stir(n, part)
	}
	return highestFirst(n)
}

func highestFirst(n uint64) api.Hash {
	var h api.Hash
	for i := range h {
		h[i] = byte(n >> (56 - 8*i))
	}
	return h
}

func node(left, right api.Hash) api.Hash {
	return hashOf([]byte{nodeMark}, left[:], right[:])
}

const smallDigits = "0123456789abcdef"

// hexadecimal is a hash as 16 digits.
func hexadecimal(h api.Hash) string {
	var out []byte
	for _, b := range h {
		out = append(out, smallDigits[b>>4], smallDigits[b&15])
	}
	return string(out)
}
