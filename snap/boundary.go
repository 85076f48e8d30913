package snap

import "notary/api"

// boundary is 0 or a size that a batch left: the root that the ledger had there, the batch's entries, and the boundaries ahead of it. It never changes, so that all ledgers that came by it share it.
type boundary struct {
	root    api.Root
	entries []api.Entry
	number  int       // how many boundaries stand ahead of it
	before  *boundary // the one ahead of it; nil of the size 0
	far     *boundary // one as far ahead or farther, by which a search leaps; of the size 0 itself
}

// firstBoundary answers the boundary of the size 0.
func firstBoundary(root api.Root) *boundary {
	b := &boundary{root: root}
	b.far = b
	return b
}

// next answers the boundary that a batch of these entries, which it keeps, makes behind b.
func (b *boundary) next(root api.Root, entries []api.Entry) *boundary {
	return &boundary{root: root, entries: entries, number: b.number + 1, before: b, far: b.leap()}
}

// leap answers where the far of the boundary behind b leads. Two leaps of one length are followed by one over both, so that a search among n boundaries takes some log n leaps, and each boundary keeps one leap alone.
func (b *boundary) leap() *boundary {
	middle := b.far
	if b.number-middle.number == middle.number-middle.far.number {
		return middle.far
	}
	return b
}

// reaching answers the first boundary whose size is n or more; n is at most the size of b.
func (b *boundary) reaching(n uint64) *boundary {
	for b.before != nil && b.before.root.Size >= n {
		b = b.nearer(n)
	}
	return b
}

// nearer answers the farthest boundary ahead of b that b knows and whose size is n or more; that of before is.
func (b *boundary) nearer(n uint64) *boundary {
	if b.far.root.Size >= n {
		return b.far
	}
	return b.before
}

// entry answers the entry at the index i, which is below the size of b.
func (b *boundary) entry(i uint64) api.Entry {
	behind := b.reaching(i + 1)
	return behind.entries[i-behind.before.root.Size]
}

// sizes answers the sizes of all boundaries up to b, rising.
func (b *boundary) sizes() []uint64 {
	list := make([]uint64, b.number+1)
	for ; b != nil; b = b.before {
		list[b.number] = b.root.Size
	}
	return list
}
