package snap

import (
	"math/bits"
	"testing"

	"notary/api"
)

// steps answers how many boundaries a search for the size n goes through.
func steps(b *boundary, n uint64) int {
	count := 0
	for at := b; at.before != nil && at.before.root.Size >= n; count++ {
		at = at.nearer(n)
	}
	return count
}

// Each search among n boundaries takes some log n steps, so that a long log of small batches can be read through.
func TestP19_6_SearchesAreShort(t *testing.T) {
	b := firstBoundary(api.Root{})
	for size := uint64(1); size <= 2000; size++ {
		b = b.next(api.Root{Size: size}, nil)
		for n := range size + 1 {
			if got, most := steps(b, n), 3*bits.Len64(size); got > most {
				t.Fatalf("%d of %d: %d steps", n, size, got)
			}
			if b.reaching(n).root.Size != n {
				t.Fatalf("%d of %d: another boundary", n, size)
			}
		}
	}
}
