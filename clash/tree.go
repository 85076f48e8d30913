package clash

import (
	"bytes"
	"cmp"
	"maps"
	"math/bits"
	"slices"

	"notary/api"
	"notary/digest"
	"notary/entry"
	"notary/nibble"
	"notary/proof"
)

const noMapTag = 0x05 // the whole input of the empty map's digest

// What a place lies in.
const (
	inSeal    = iota // the sealed root itself
	inOldSeal        // the sealed root of the beginning that is spoken of
	inLog
	inMap
)

// place is where an input belongs. In the log it is the node over count leaves from the one at from on: so one place has one digest in each log that begins alike, whatever its size. On a key's path in the map from is the depth.
type place struct {
	in          int
	from, count uint64
}

// node is an input and its digest.
type node struct {
	input  []byte
	digest api.Digest
}

// tree is as much of a ledger's tree as a receipt makes known: the inputs on its way, each at its place.
type tree map[place]node

// grown answers the tree of an accepted receipt, whose own root is sealed at the place seal.
func grown(w int, p []byte, seal int) tree {
	r, t := decoded(w, p), tree{}
	t.laySeal(w, seal, r.Root)
	top := place{in: inLog, count: r.Root.Size}
	switch r.Kind {
	case api.ClaimEntry:
		leaf, _ := entry.Encode(r.Entry) // can't be refused, here as below: the receipt is accepted
		t.layWay(w, top, r.Index, digest.LeafInput(leaf), r.Digests)
	case api.ClaimKey:
		t.layPath(w, r)
	case api.ClaimSince:
		t.laySeal(w, inOldSeal, r.Old)
		if r.Old.Size > 0 { // an empty log has no place in another one
			t.layBoth(w, place{in: inLog, count: r.Old.Size}, top, r.Old.Log, r.Digests)
		}
	}
	return t
}

// lay puts the input at its place, and answers its digest.
func (t tree) lay(w int, at place, input []byte) api.Digest {
	d, _ := digest.Sum(w, input) // can't be refused: w is a width
	t[at] = node{input, d}
	return d
}

func (t tree) laySeal(w int, in int, root api.Root) {
	input, _ := digest.RootInput(w, root)
	t.lay(w, place{in: in}, input)
}

func (t tree) layNode(w int, at place, l, r api.Digest) api.Digest {
	input, _ := digest.NodeInput(w, l, r)
	return t.lay(w, at, input)
}

// layWay lays the inputs from the leaf number i up to the place, by an inclusion proof, and answers the digest there.
func (t tree) layWay(w int, at place, i uint64, leaf []byte, way []api.Digest) api.Digest {
	if at.count == 1 {
		return t.lay(w, at, leaf)
	}
	rest, last := parted(way)
	l, r := halves(at)
	if i < r.from {
		return t.layNode(w, at, t.layWay(w, l, i, leaf, rest), last)
	}
	return t.layNode(w, at, last, t.layWay(w, r, i, leaf, rest))
}

// layBoth lays the inputs up to a place of the older log and one of the newer, which begin at one leaf, by a consistency proof, and answers the digests there. whole is the older log's digest, which the proof leaves out where it is one of the newer log's too.
func (t tree) layBoth(w int, old, now place, whole api.Digest, way []api.Digest) (api.Digest, api.Digest) {
	if old == now {
		if len(way) > 0 { // the place is a part of the older log, so the proof has told its digest
			return way[0], way[0]
		}
		return whole, whole
	}
	rest, last := parted(way)
	l, r := halves(now)
	if old.count <= l.count {
		a, b := t.layBoth(w, old, l, whole, rest)
		return a, t.layNode(w, now, b, last)
	}
	a, b := t.layBoth(w, place{in: inLog, from: r.from, count: old.count - l.count}, r, whole, rest)
	return t.layNode(w, old, last, a), t.layNode(w, now, last, b)
}

// layPath lays the inputs from the end of the key's path up to the map's digest.
func (t tree) layPath(w int, r proof.Receipt) {
	keySum, _ := digest.Key(w, r.Key)
	steps := r.Path.Steps
	var d api.Digest
	switch {
	case len(r.Path.Pairs) > 0:
		d = t.lay(w, depth(len(steps)), digest.BucketInput(r.Path.Pairs))
	case len(steps) == 0:
		t.lay(w, depth(0), []byte{noMapTag})
	}
	for i, step := range slices.Backward(steps) {
		kids := step.Kids
		if c, _ := nibble.At(w, keySum, i); nibble.Has(step.Bitmap, c) {
			kids = slices.Insert(slices.Clone(kids), nibble.Rank(step.Bitmap, c), d)
		}
		input, _ := digest.BranchInput(w, step.Bitmap, kids)
		d = t.lay(w, depth(i), input)
	}
}

// depth answers the place on a key's path that has so many branches above it.
func depth(steps int) place { return place{in: inMap, from: uint64(steps)} }

// halves answers the two places under that of a node; it must have two leaves at least.
func halves(at place) (place, place) {
	k := uint64(1) << (bits.Len64(at.count-1) - 1) // the greatest power of two below the count
	return place{in: at.in, from: at.from, count: k}, place{in: at.in, from: at.from + k, count: at.count - k}
}

// parted answers what stands ahead of a proof's last digest, and that one; the proof must not be empty.
func parted(way []api.Digest) ([]api.Digest, api.Digest) {
	at := len(way) - 1
	return way[:at], way[at]
}

// unlike answers the first two unlike inputs of one digest that two of the trees have at one place. Of trees that can't all be so there are always two: they have one digest at the top, and as long as their inputs are alike, one digest at the place below.
func unlike(trees ...tree) (x, y []byte) {
	for i, one := range trees {
		for _, other := range trees[i+1:] {
			for _, at := range one.downward() {
				a := one[at]
				if b, ok := other[at]; ok && a.digest == b.digest && !bytes.Equal(a.input, b.input) {
					return a.input, b.input
				}
			}
		}
	}
	return nil, nil
}

// downward answers the tree's places, those further up first.
func (t tree) downward() []place {
	return slices.SortedFunc(maps.Keys(t), func(a, b place) int {
		return cmp.Or(cmp.Compare(a.in, b.in), cmp.Compare(b.count, a.count), cmp.Compare(a.from, b.from))
	})
}
