package snap_test

import (
	"bytes"
	"crypto/sha256"
	"encoding/binary"
	"encoding/hex"
	"maps"
	"slices"
	"strings"

	"notary/api"
)

// The chapters' words a second time, over lists and by another SHA-256: what a ledger of some entries answers.

// book is which value each key has.
type book map[string]string

// bookOf is the map of the entries: each key has the value of its last Put, if no Delete stands behind that.
func bookOf(entries []api.Entry) book {
	b := book{}
	for _, e := range entries {
		if e.Kind == api.Put {
			b[string(e.Key)] = string(e.Value)
		} else {
			delete(b, string(e.Key))
		}
	}
	return b
}

func cutSum(w int, pieces ...[]byte) api.Digest {
	whole := sha256.Sum256(slices.Concat(pieces...))
	var d api.Digest
	copy(d[:w], whole[:])
	return d
}

func wordsBlob(p []byte) []byte { return append(binary.AppendUvarint(nil, uint64(len(p))), p...) }

func wordsEntry(e api.Entry) []byte {
	p := append([]byte{e.Kind}, wordsBlob(e.Key)...)
	if e.Kind == api.Put {
		p = append(p, wordsBlob(e.Value)...)
	}
	return p
}

func wordsLeaves(w int, entries []api.Entry) []api.Digest {
	var list []api.Digest
	for _, e := range entries {
		list = append(list, cutSum(w, []byte{0}, wordsEntry(e)))
	}
	return list
}

// half is the greatest power of two below n.
func half(n int) int {
	k := 1
	for 2*k < n {
		k *= 2
	}
	return k
}

func wordsLog(w int, leaves []api.Digest) api.Digest {
	switch len(leaves) {
	case 0:
		return cutSum(w)
	case 1:
		return leaves[0]
	}
	k := half(len(leaves))
	l, r := wordsLog(w, leaves[:k]), wordsLog(w, leaves[k:])
	return cutSum(w, []byte{1}, l[:w], r[:w])
}

// wordsPath is P11.1.
func wordsPath(w, i int, leaves []api.Digest) []api.Digest {
	if len(leaves) == 1 {
		return nil
	}
	k := half(len(leaves))
	if i < k {
		return append(wordsPath(w, i, leaves[:k]), wordsLog(w, leaves[k:]))
	}
	return append(wordsPath(w, i-k, leaves[k:]), wordsLog(w, leaves[:k]))
}

// wordsSeam is P11.2.
func wordsSeam(w, m int, leaves []api.Digest, whole bool) []api.Digest {
	if m == len(leaves) {
		if whole {
			return nil
		}
		return []api.Digest{wordsLog(w, leaves)}
	}
	k := half(len(leaves))
	if m <= k {
		return append(wordsSeam(w, m, leaves[:k], whole), wordsLog(w, leaves[k:]))
	}
	return append(wordsSeam(w, m-k, leaves[k:], false), wordsLog(w, leaves[:k]))
}

// digits answers the digits of a key's digest, in base 16.
func digits(w int, key string) string {
	d := cutSum(w, []byte{2}, []byte(key))
	return hex.EncodeToString(d[:w])
}

// wordsNode is chapter 14's tree of a set of pairs: a bucket of these keys, or a branch with a child for some digits.
type wordsNode struct {
	keys []string
	kids [16]*wordsNode
	sum  api.Digest
}

// wordsTree answers what the keys make at the depth; nil of no keys.
func wordsTree(w int, b book, keys []string, depth int) *wordsNode {
	if len(keys) == 0 {
		return nil
	}
	n := &wordsNode{}
	if !slices.ContainsFunc(keys, func(key string) bool { return digits(w, key) != digits(w, keys[0]) }) {
		n.keys = slices.Sorted(slices.Values(keys))
		n.sum = cutSum(w, []byte{3}, wordsPairs(b, n.keys))
		return n
	}
	var parts [16][]string
	for _, key := range keys {
		i := strings.IndexByte("0123456789abcdef", digits(w, key)[depth])
		parts[i] = append(parts[i], key)
	}
	for i, part := range parts {
		n.kids[i] = wordsTree(w, b, part, depth+1)
	}
	bitmap, kids, _ := n.allBut(w, -1)
	n.sum = cutSum(w, []byte{4}, bitmap, kids)
	return n
}

// wordsPairs lays a count of pairs and the pairs: as they stand in a bucket's input, and in a receipt.
func wordsPairs(b book, keys []string) []byte {
	p := binary.AppendUvarint(nil, uint64(len(keys)))
	for _, key := range keys {
		p = slices.Concat(p, wordsBlob([]byte(key)), wordsBlob([]byte(b[key])))
	}
	return p
}

// allBut answers a branch's bitmap and the digests of its children but that for the digit, as bytes, and how many these are.
func (n *wordsNode) allBut(w, digit int) ([]byte, []byte, int) {
	bitmap, count := 0, 0
	var kids []byte
	for i, kid := range n.kids {
		if kid == nil {
			continue
		}
		bitmap += 1 << i
		if i != digit {
			kids = append(kids, kid.sum[:w]...)
			count++
		}
	}
	return []byte{byte(bitmap >> 8), byte(bitmap)}, kids, count
}

// wordsMap answers the tree of a book.
func wordsMap(w int, b book) *wordsNode { return wordsTree(w, b, slices.Collect(maps.Keys(b)), 0) }

// wordsRoot is R(n) of n entries.
func wordsRoot(w int, entries []api.Entry) api.Root {
	r := api.Root{Size: uint64(len(entries)), Log: wordsLog(w, wordsLeaves(w, entries)), Map: cutSum(w, []byte{5})}
	if tree := wordsMap(w, bookOf(entries)); tree != nil {
		r.Map = tree.sum
	}
	return r
}

func rootBytes(w int, r api.Root) []byte {
	return slices.Concat(binary.BigEndian.AppendUint64(nil, r.Size), r.Log[:w], r.Map[:w])
}

func wordsSeal(w int, r api.Root) api.Digest { return cutSum(w, []byte{6}, rootBytes(w, r)) }

func digestBytes(w int, list []api.Digest) []byte {
	p := binary.AppendUvarint(nil, uint64(len(list)))
	for _, d := range list {
		p = append(p, d[:w]...)
	}
	return p
}

// receiptOfEntry is P17.1's bytes of the kind 1, with P11.1's proof.
func receiptOfEntry(w int, entries []api.Entry, i int) []byte {
	return slices.Concat([]byte{1}, rootBytes(w, wordsRoot(w, entries)), binary.AppendUvarint(nil, uint64(i)),
		wordsBlob(wordsEntry(entries[i])), digestBytes(w, wordsPath(w, i, wordsLeaves(w, entries))))
}

// receiptOfKey is P17.1's bytes of the kind 2, with P15.1's proof.
func receiptOfKey(w int, entries []api.Entry, key string) []byte {
	b := bookOf(entries)
	var steps []byte
	count := 0
	n := wordsMap(w, b)
	for n != nil && n.keys == nil {
		child := strings.IndexByte("0123456789abcdef", digits(w, key)[count])
		bitmap, kids, digests := n.allBut(w, child)
		steps = slices.Concat(steps, bitmap, binary.AppendUvarint(nil, uint64(digests)), kids)
		count++
		n = n.kids[child]
	}
	var keys []string
	if n != nil {
		keys = n.keys
	}
	return slices.Concat([]byte{2}, rootBytes(w, wordsRoot(w, entries)), wordsBlob([]byte(key)), binary.AppendUvarint(nil, uint64(count)), steps, wordsPairs(b, keys))
}

// receiptSince is P17.1's bytes of the kind 3, with P11.2's proof.
func receiptSince(w int, entries []api.Entry, m int) []byte {
	var seam []api.Digest
	if m > 0 {
		seam = wordsSeam(w, m, wordsLeaves(w, entries), true)
	}
	return slices.Concat([]byte{3}, rootBytes(w, wordsRoot(w, entries)), rootBytes(w, wordsRoot(w, entries[:m])), digestBytes(w, seam))
}

func sameEntry(a, b api.Entry) bool {
	return a.Kind == b.Kind && bytes.Equal(a.Key, b.Key) && bytes.Equal(a.Value, b.Value)
}
