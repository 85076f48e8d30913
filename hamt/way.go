package hamt

import "notary/api"

// way is the way down a tree by the digits of a key's digest.
type way struct {
	width   int
	keySum  api.Digest
	crossed []*branch // from the root down
	end     *bucket   // nil, if the last branch has no child for the digit, or if there is no tree
	at      int       // the key's place in end
	found   bool      // the key stands there
}

// wayOf answers the key's way down from the top.
func wayOf(w int, top node, keySum api.Digest, key []byte) way {
	down := way{width: w, keySum: keySum}
	for {
		switch n := top.(type) {
		case *branch:
			top = n.kid(digit(w, keySum, len(down.crossed)))
			down.crossed = append(down.crossed, n)
		case *bucket:
			down.end = n
			down.at, down.found = n.place(key)
			return down
		default:
			return down
		}
	}
}

// endWith answers what hangs at the way's end when the key has its value by this pair.
func (down way) endWith(pair api.Pair) node {
	if down.end != nil && down.end.keySum == down.keySum {
		return bucketOf(down.width, down.keySum, down.around(pair)...)
	}
	alone := bucketOf(down.width, down.keySum, pair)
	if down.end == nil {
		return alone
	}
	return forked(down.width, len(down.crossed), down.end, alone)
}

// endWithout answers what hangs at the way's end, where the key was found, when its pair is gone.
func (down way) endWithout() node {
	if len(down.end.pairs) == 1 {
		return nil
	}
	return bucketOf(down.width, down.keySum, down.around()...)
}

// around answers the pairs of the bucket at the end but the key's, with these in its place.
func (down way) around(pairs ...api.Pair) []api.Pair {
	behind := down.at
	if down.found {
		behind++
	}
	return spliced(down.end.pairs, down.at, behind, pairs...)
}

// lift answers the tree that has n at the way's end: new branches from there up, all others shared.
func (down way) lift(n node) node {
	for depth := len(down.crossed) - 1; depth >= 0; depth-- {
		n = down.crossed[depth].withKid(down.width, digit(down.width, down.keySum, depth), n)
	}
	return n
}
