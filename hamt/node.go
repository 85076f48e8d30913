package hamt

import (
	"bytes"
	"slices"

	"notary/api"
	"notary/digest"
	"notary/nibble"
)

// node is what a set of pairs makes, a *bucket or a *branch; no pairs make nil. It never changes, and nothing that it keeps is handed out but as a copy.
type node interface {
	sum() api.Digest                // its digest
	lay(list []api.Pair) []api.Pair // the list, with copies of the node's pairs behind it
}

// bucket is all pairs of one key digest, in the order of their keys; there is one at least.
type bucket struct {
	keySum api.Digest
	pairs  []api.Pair
	own    api.Digest
}

// branch is children for the digits at a depth, in the order of the digits. Its pairs have more than one key digest.
type branch struct {
	bitmap uint16
	kids   []node
	own    api.Digest
}

// bucketOf answers the bucket of these pairs, which it keeps.
func bucketOf(w int, keySum api.Digest, pairs ...api.Pair) *bucket {
	own, _ := digest.Bucket(w, pairs) // can't be refused: w is a width
	return &bucket{keySum, pairs, own}
}

// joined answers what these children make, which it keeps: the branch over them, but that a bucket hangs as near to the root as it can, and so never alone under a branch.
func joined(w int, bitmap uint16, kids ...node) node {
	if b, ok := kids[0].(*bucket); ok && len(kids) == 1 {
		return b
	}
	own, _ := digest.Branch(w, bitmap, sums(kids)) // can't be refused: there is a child for each one of the bitmap
	return &branch{bitmap, kids, own}
}

// forked answers what two buckets of unlike key digests make at the depth, up to which their digits are the same.
func forked(w, depth int, a, b *bucket) node {
	part, _ := nibble.Common(w, a.keySum, b.keySum) // can't be refused, as Order: both are of the width
	if order, _ := nibble.Order(w, a.keySum, b.keySum); order > 0 {
		a, b = b, a
	}
	bitmap := nibble.With(0, digit(w, a.keySum, part))
	top := joined(w, nibble.With(bitmap, digit(w, b.keySum, part)), a, b)
	for part > depth {
		part--
		top = joined(w, nibble.With(0, digit(w, a.keySum, part)), top)
	}
	return top
}

func (b *bucket) sum() api.Digest { return b.own }

func (b *branch) sum() api.Digest { return b.own }

func (b *bucket) lay(list []api.Pair) []api.Pair {
	for _, pair := range b.pairs {
		list = append(list, api.Pair{Key: bytes.Clone(pair.Key), Value: bytes.Clone(pair.Value)})
	}
	return list
}

func (b *branch) lay(list []api.Pair) []api.Pair {
	for _, kid := range b.kids {
		list = kid.lay(list)
	}
	return list
}

// place answers where among the bucket's pairs the key stands, or would stand, and whether it does.
func (b *bucket) place(key []byte) (int, bool) {
	return slices.BinarySearchFunc(b.pairs, key, func(pair api.Pair, key []byte) int {
		return bytes.Compare(pair.Key, key)
	})
}

// kid answers the child for the digit; nil, if there is none.
func (b *branch) kid(digit int) node {
	if !nibble.Has(b.bitmap, digit) {
		return nil
	}
	return b.kids[nibble.Rank(b.bitmap, digit)]
}

// withKid answers what the branch becomes when its child for the digit is this one, or nil: none.
func (b *branch) withKid(w, digit int, kid node) node {
	from, to := nibble.Rank(b.bitmap, digit), nibble.Rank(b.bitmap, digit+1)
	if kid == nil {
		return joined(w, nibble.Without(b.bitmap, digit), spliced(b.kids, from, to)...)
	}
	return joined(w, nibble.With(b.bitmap, digit), spliced(b.kids, from, to, kid)...)
}

// sums answers the nodes' digests.
func sums(nodes []node) []api.Digest {
	list := make([]api.Digest, len(nodes))
	for i, n := range nodes {
		list[i] = n.sum()
	}
	return list
}

// spliced answers the list with these items in the place of those from the one number up to the other, in new memory.
func spliced[T any](list []T, from, to int, items ...T) []T {
	return slices.Concat(list[:from], items, list[to:])
}

// digit answers the digit at the depth.
func digit(w int, keySum api.Digest, depth int) int {
	i, _ := nibble.At(w, keySum, depth) // can't be refused: branches stand only where digits part, at the last one or above
	return i
}
