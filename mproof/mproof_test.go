package mproof_test

import (
	"crypto/sha256"
	"math"
	"math/bits"
	"math/rand"
	"slices"
	"sync"
	"testing"

	"notary/api"
	"notary/mproof"
	"notary/mtree"
)

const top = math.MaxUint64

// treeOf answers a tree of n leaves of the width w.
func treeOf(t *testing.T, w, n int) *mtree.Tree {
	t.Helper()
	tree, e := mtree.New(w)
	if e != api.OK {
		t.Fatalf("New(%d): %d", w, e)
	}
	leaves := make([]api.Digest, n)
	for i := range leaves {
		leaves[i] = cutSum(w, []byte{byte(i >> 8), byte(i), 'l'})
	}
	tree, e = tree.Append(leaves...)
	if e != api.OK {
		t.Fatalf("Append of %d leaves: %d", n, e)
	}
	return tree
}

// cutSum is the digest of a text, made by another SHA-256.
func cutSum(w int, p []byte) api.Digest {
	whole := sha256.Sum256(p)
	var d api.Digest
	copy(d[:w], whole[:])
	return d
}

func node(w int, l, r api.Digest) api.Digest {
	return cutSum(w, slices.Concat([]byte{1}, l[:w], r[:w]))
}

// span is a range of leaves; the layer below has tests of its own, so proofs are told by ranges here.
type span [2]uint64

func digests(t *testing.T, tree *mtree.Tree, spans []span) []api.Digest {
	t.Helper()
	var list []api.Digest
	for _, s := range spans {
		d, e := tree.Range(s[0], s[1])
		if e != api.OK {
			t.Fatalf("Range(%d, %d): %d", s[0], s[1], e)
		}
		list = append(list, d)
	}
	return list
}

// wordsSplit is the chapter's split, by doubling as long as the power stays below.
func wordsSplit(lo, hi uint64) uint64 {
	k := uint64(1)
	for k < hi-lo-k {
		k *= 2
	}
	return lo + k
}

// wordsPath is P11.1's path.
func wordsPath(i, lo, hi uint64) []span {
	if hi-lo == 1 {
		return nil
	}
	s := wordsSplit(lo, hi)
	if i < s {
		return append(wordsPath(i, lo, s), span{s, hi})
	}
	return append(wordsPath(i, s, hi), span{lo, s})
}

// wordsSub is P11.2's sub.
func wordsSub(m, lo, hi uint64, whole bool) []span {
	if m == hi {
		if whole {
			return nil
		}
		return []span{{lo, hi}}
	}
	s := wordsSplit(lo, hi)
	if m <= s {
		return append(wordsSub(m, lo, s, whole), span{s, hi})
	}
	return append(wordsSub(m, s, hi, false), span{lo, s})
}

func wordsConsistency(m, n uint64) []span {
	if m == 0 || m == n {
		return nil
	}
	return wordsSub(m, 0, n, true)
}

// refused fails unless a proof was refused by this error, with nothing beside it.
func refused(t *testing.T, what string, a, b uint64, proof []api.Digest, e, want api.Errno) {
	t.Helper()
	if e != want || len(proof) != 0 {
		t.Errorf("%s(%d, %d): %d digests, %d, want %d", what, a, b, len(proof), e, want)
	}
}

func TestP11_1_EachInclusion(t *testing.T) {
	for _, w := range []int{1, 32} {
		tree := treeOf(t, w, 70)
		for n := uint64(1); n <= 70; n++ {
			for i := range n {
				proof, e := mproof.Inclusion(tree, i, n)
				if want := digests(t, tree, wordsPath(i, 0, n)); e != api.OK || !slices.Equal(proof, want) {
					t.Errorf("width %d: Inclusion(%d, %d) = %x, %d, want %x", w, i, n, proof, e, want)
				}
			}
		}
	}
}

// The tree's own size makes no difference, if it has the leaves.
func TestP11_1_TreesOfEachSize(t *testing.T) {
	for size := 1; size <= 34; size++ {
		tree := treeOf(t, 5, size)
		for n := uint64(1); n <= uint64(size); n++ {
			for i := range n {
				proof, e := mproof.Inclusion(tree, i, n)
				if want := digests(t, tree, wordsPath(i, 0, n)); e != api.OK || !slices.Equal(proof, want) {
					t.Errorf("size %d: Inclusion(%d, %d) = %x, %d, want %x", size, i, n, proof, e, want)
				}
			}
		}
	}
}

func TestP11_1_Errors(t *testing.T) {
	for _, size := range []int{0, 1, 7, 8} {
		tree := treeOf(t, 4, size)
		n := uint64(size)
		for _, c := range [][2]uint64{
			{0, 0}, {n, n}, {n + 1, n}, {1, 0}, {0, n + 1}, {n, n + 1}, {n + 1, n + 1}, {0, top}, {top - 1, top}, {top, top}, {top, 0}, {top, n}, {1 << 63, 1<<63 + 1},
		} {
			proof, e := mproof.Inclusion(tree, c[0], c[1])
			refused(t, "Inclusion", c[0], c[1], proof, e, api.ErrRange)
		}
	}
	for _, c := range []struct {
		i, n uint64
		want api.Errno
	}{
		{0, 1, api.ErrNone}, {0, 7, api.ErrNone}, {top - 1, top, api.ErrNone}, {0, top, api.ErrNone}, {0, 0, api.ErrRange}, {1, 1, api.ErrRange}, {2, 1, api.ErrRange}, {top, top, api.ErrRange}, {top, 0, api.ErrRange},
	} {
		proof, e := mproof.Inclusion(nil, c.i, c.n)
		refused(t, "of no tree: Inclusion", c.i, c.n, proof, e, c.want)
	}
}

func TestP11_2_EachConsistency(t *testing.T) {
	for _, w := range []int{1, 32} {
		tree := treeOf(t, w, 70)
		for n := range uint64(71) {
			for m := range n + 1 {
				proof, e := mproof.Consistency(tree, m, n)
				if want := digests(t, tree, wordsConsistency(m, n)); e != api.OK || !slices.Equal(proof, want) {
					t.Errorf("width %d: Consistency(%d, %d) = %x, %d, want %x", w, m, n, proof, e, want)
				}
			}
		}
	}
}

func TestP11_2_TreesOfEachSize(t *testing.T) {
	for size := range 35 {
		tree := treeOf(t, 5, size)
		for n := range uint64(size) + 1 {
			for m := range n + 1 {
				proof, e := mproof.Consistency(tree, m, n)
				if want := digests(t, tree, wordsConsistency(m, n)); e != api.OK || !slices.Equal(proof, want) {
					t.Errorf("size %d: Consistency(%d, %d) = %x, %d, want %x", size, m, n, proof, e, want)
				}
			}
		}
	}
}

func TestP11_2_NoDigests(t *testing.T) {
	tree := treeOf(t, 9, 40)
	for n := range uint64(41) {
		for _, m := range []uint64{0, n} {
			if proof, e := mproof.Consistency(tree, m, n); e != api.OK || len(proof) != 0 {
				t.Errorf("Consistency(%d, %d) = %x, %d", m, n, proof, e)
			}
		}
	}
}

func TestP11_2_Errors(t *testing.T) {
	for _, size := range []int{0, 1, 7, 8} {
		tree := treeOf(t, 4, size)
		n := uint64(size)
		for _, c := range [][2]uint64{
			{1, 0}, {n + 1, n}, {n + 2, n + 1}, {0, n + 1}, {1, n + 1}, {n, n + 1}, {n + 1, n + 1}, {0, top}, {1, top}, {top, top}, {top, 0}, {top, top - 1}, {1 << 63, 1<<63 + 1},
		} {
			proof, e := mproof.Consistency(tree, c[0], c[1])
			refused(t, "Consistency", c[0], c[1], proof, e, api.ErrRange)
		}
	}
	for _, c := range []struct {
		m, n uint64
		want api.Errno
	}{
		{0, 0, api.ErrNone}, {0, 1, api.ErrNone}, {1, 1, api.ErrNone}, {3, 7, api.ErrNone}, {top, top, api.ErrNone}, {1, top, api.ErrNone}, {1, 0, api.ErrRange}, {8, 7, api.ErrRange}, {top, top - 1, api.ErrRange},
	} {
		proof, e := mproof.Consistency(nil, c.m, c.n)
		refused(t, "of no tree: Consistency", c.m, c.n, proof, e, c.want)
	}
}

// climb answers the root to which an inclusion proof leads, by RFC 9162's way from the leaf up, which knows no ranges; false, if the proof has another count of digests.
func climb(w int, leaf api.Digest, i, n uint64, proof []api.Digest) (api.Digest, bool) {
	at, last := i, n-1
	for _, d := range proof {
		if last == 0 {
			return api.Digest{}, false
		}
		if at&1 == 1 || at == last {
			leaf = node(w, d, leaf)
			for at&1 == 0 && at != 0 {
				at, last = at>>1, last>>1
			}
		} else {
			leaf = node(w, leaf, d)
		}
		at, last = at>>1, last>>1
	}
	return leaf, last == 0
}

func TestP11_1_LeadsToTheRoot(t *testing.T) {
	for _, w := range []int{3, 32} {
		tree := treeOf(t, w, 150)
		for n := uint64(1); n <= 150; n++ {
			root, _ := tree.Root(n)
			for i := range n {
				leaf, _ := tree.Leaf(i)
				proof, _ := mproof.Inclusion(tree, i, n)
				if d, ok := climb(w, leaf, i, n, proof); !ok || d != root {
					t.Errorf("width %d: Inclusion(%d, %d) leads to %x, not to %x", w, i, n, d, root)
				}
			}
		}
	}
}

// climbBoth answers the roots of m and of n to which a consistency proof leads, by RFC 9162's way, 0 < m < n.
func climbBoth(w int, m, n uint64, old api.Digest, proof []api.Digest) (api.Digest, api.Digest, bool) {
	if m&(m-1) == 0 {
		proof = slices.Concat([]api.Digest{old}, proof)
	}
	at, last := m-1, n-1
	for at&1 == 1 {
		at, last = at>>1, last>>1
	}
	if len(proof) == 0 {
		return old, old, false
	}
	a, b := proof[0], proof[0]
	for _, d := range proof[1:] {
		if last == 0 {
			return a, b, false
		}
		if at&1 == 1 || at == last {
			a, b = node(w, d, a), node(w, d, b)
			for at&1 == 0 && at != 0 {
				at, last = at>>1, last>>1
			}
		} else {
			b = node(w, b, d)
		}
		at, last = at>>1, last>>1
	}
	return a, b, last == 0
}

func TestP11_2_LeadsToBothRoots(t *testing.T) {
	for _, w := range []int{3, 32} {
		tree := treeOf(t, w, 150)
		for n := uint64(2); n <= 150; n++ {
			root, _ := tree.Root(n)
			for m := uint64(1); m < n; m++ {
				old, _ := tree.Root(m)
				proof, _ := mproof.Consistency(tree, m, n)
				if a, b, ok := climbBoth(w, m, n, old, proof); !ok || a != old || b != root {
					t.Errorf("width %d: Consistency(%d, %d) leads to %x and %x, not to %x and %x", w, m, n, a, b, old, root)
				}
			}
		}
	}
}

// inclusionCount tells by the numbers' bits how long a proof is: one digest for each level up to where the ways to i and to the last leaf part, and one for each turn to the right above.
func inclusionCount(i, n uint64) int {
	inner := bits.Len64(i ^ (n - 1))
	return inner + bits.OnesCount64(i>>inner)
}

// consistencyCount is the same way up, begun at the lowest whole subtree at the end of the m, whose own digest is one more unless it is all of them.
func consistencyCount(m, n uint64) int {
	if m == 0 || m == n {
		return 0
	}
	count := inclusionCount(m-1, n) - bits.TrailingZeros64(m)
	if m&(m-1) != 0 {
		count++
	}
	return count
}

// edges answers numbers about the powers of two, and others over all lengths.
func edges() []uint64 {
	list := []uint64{0, top}
	for k := range 64 {
		p := uint64(1) << k
		list = append(list, p-1, p, p+1, top-p, top-p+1, top-p-1)
	}
	r := rand.New(rand.NewSource(113))
	for range 60 {
		list = append(list, r.Uint64()>>r.Intn(64))
	}
	slices.Sort(list)
	return slices.Compact(list)
}

func checkCounts(t *testing.T, i, m, n uint64) {
	t.Helper()
	a, b, e := mproof.Counts(i, m, n)
	if i >= n || m > n {
		if a != 0 || b != 0 || e != api.ErrRange {
			t.Errorf("Counts(%d, %d, %d) = %d, %d, %d", i, m, n, a, b, e)
		}
		return
	}
	if e != api.OK || a != inclusionCount(i, n) || b != consistencyCount(m, n) {
		t.Errorf("Counts(%d, %d, %d) = %d, %d, %d, want %d, %d", i, m, n, a, b, e, inclusionCount(i, n), consistencyCount(m, n))
	}
}

func TestP11_3_AllNumbers(t *testing.T) {
	numbers := edges()
	for at, n := range numbers {
		for other, m := range numbers {
			i := numbers[(7*at+3*other)%len(numbers)]
			checkCounts(t, i, m, n)
			checkCounts(t, m, i, n)
			checkCounts(t, m, m, n)
			if n > 0 && m > 0 {
				checkCounts(t, i%n, m%n, n)
			}
		}
	}
}

func TestP11_3_AsManyAsTheWordsSay(t *testing.T) {
	r := rand.New(rand.NewSource(1130))
	for range 3000 {
		n := r.Uint64()>>r.Intn(64) | 1
		i, m := r.Uint64()%n, r.Uint64()%n
		a, b, e := mproof.Counts(i, m, n)
		if e != api.OK || a != len(wordsPath(i, 0, n)) || b != len(wordsConsistency(m, n)) {
			t.Errorf("Counts(%d, %d, %d) = %d, %d, %d", i, m, n, a, b, e)
		}
	}
}

func TestP11_3_AsManyAsTheProofsHave(t *testing.T) {
	tree := treeOf(t, 2, 100)
	for n := uint64(1); n <= 100; n++ {
		for m := range n + 1 {
			i := min(m, n-1)
			p, _ := mproof.Inclusion(tree, i, n)
			q, _ := mproof.Consistency(tree, m, n)
			if a, b, e := mproof.Counts(i, m, n); e != api.OK || a != len(p) || b != len(q) {
				t.Errorf("Counts(%d, %d, %d) = %d, %d, %d, but there are %d and %d", i, m, n, a, b, e, len(p), len(q))
			}
		}
	}
}

func TestP11_3_Errors(t *testing.T) {
	for _, c := range [][3]uint64{
		{0, 0, 0}, {1, 0, 0}, {0, 1, 0}, {1, 0, 1}, {5, 0, 5}, {6, 0, 5}, {0, 6, 5}, {5, 6, 5}, {5, 5, 5}, {top, 0, top}, {top, top, top}, {0, top, top - 1}, {top - 1, 0, top - 1}, {top, top, 0},
	} {
		if a, b, e := mproof.Counts(c[0], c[1], c[2]); a != 0 || b != 0 || e != api.ErrRange {
			t.Errorf("Counts(%d, %d, %d) = %d, %d, %d", c[0], c[1], c[2], a, b, e)
		}
	}
}

func TestP11_4_AtMost(t *testing.T) {
	numbers := edges()
	mostA, mostB := 0, 0
	for _, n := range numbers {
		for _, m := range numbers {
			a, b, e := mproof.Counts(m, m, n)
			if e != api.OK {
				continue
			}
			if a > 64 || b > 65 {
				t.Errorf("Counts(%d, %d, %d) = %d, %d", m, m, n, a, b)
			}
			mostA, mostB = max(mostA, a), max(mostB, b)
		}
	}
	if mostA != 64 || mostB != 65 {
		t.Errorf("the longest proofs that were met have %d and %d digests", mostA, mostB)
	}
}

func TestP11_4_WholeTrees(t *testing.T) {
	for k := range 8 {
		n := uint64(1) << k
		tree := treeOf(t, 6, int(n))
		for i := range n {
			if proof, e := mproof.Inclusion(tree, i, n); e != api.OK || len(proof) != k {
				t.Errorf("Inclusion(%d, %d): %d digests, %d", i, n, len(proof), e)
			}
		}
	}
	r := rand.New(rand.NewSource(114))
	for k := range 64 {
		n := uint64(1) << k
		for _, i := range []uint64{0, n / 2, n - 1, r.Uint64() % n} {
			if a, _, e := mproof.Counts(i, 0, n); e != api.OK || a != k {
				t.Errorf("Counts(%d, 0, %d) = %d, %d", i, n, a, e)
			}
		}
	}
}

// The older root is known to whoever checks: where it is a digest that the newer one is made of, it is left out.
func TestP11_4_TheOlderRootIsLeftOut(t *testing.T) {
	tree := treeOf(t, 32, 130)
	for m := uint64(1); m <= 128; m *= 2 {
		old, _ := tree.Root(m)
		for n := m + 1; n <= 130; n++ {
			if proof, e := mproof.Consistency(tree, m, n); e != api.OK || len(proof) == 0 || slices.Contains(proof, old) {
				t.Errorf("Consistency(%d, %d) = %x, %d", m, n, proof, e)
			}
		}
	}
}

func TestP11_Examples(t *testing.T) {
	tree := treeOf(t, 32, 7)
	for _, c := range []struct {
		i, n uint64
		want []span
	}{
		{0, 7, []span{{1, 2}, {2, 4}, {4, 7}}},
		{6, 7, []span{{4, 6}, {0, 4}}},
		{4, 5, []span{{0, 4}}},
		{0, 1, nil},
		{3, 4, []span{{2, 3}, {0, 2}}},
	} {
		if proof, e := mproof.Inclusion(tree, c.i, c.n); e != api.OK || !slices.Equal(proof, digests(t, tree, c.want)) {
			t.Errorf("Inclusion(%d, %d) = %x, %d", c.i, c.n, proof, e)
		}
	}
	for _, c := range []struct {
		m, n uint64
		want []span
	}{
		{3, 7, []span{{2, 3}, {3, 4}, {0, 2}, {4, 7}}},
		{4, 7, []span{{4, 7}}},
		{6, 7, []span{{4, 6}, {6, 7}, {0, 4}}},
		{1, 2, []span{{1, 2}}},
		{0, 7, nil},
		{7, 7, nil},
		{0, 0, nil},
	} {
		if proof, e := mproof.Consistency(tree, c.m, c.n); e != api.OK || !slices.Equal(proof, digests(t, tree, c.want)) {
			t.Errorf("Consistency(%d, %d) = %x, %d", c.m, c.n, proof, e)
		}
	}
	for _, c := range []struct {
		i, m, n uint64
		a, b    int
	}{
		{0, 3, 7, 3, 4}, {6, 6, 7, 2, 3}, {0, 0, 1, 0, 0}, {0, 1, 1 << 63, 63, 63}, {top - 1, top - 1, top, 63, 64},
	} {
		if a, b, e := mproof.Counts(c.i, c.m, c.n); e != api.OK || a != c.a || b != c.b {
			t.Errorf("Counts(%d, %d, %d) = %d, %d, %d", c.i, c.m, c.n, a, b, e)
		}
	}
}

// Of a tree that New has not made nothing is promised but that the calls end.
func TestP1_NotMadeByNew(t *testing.T) {
	copied := *treeOf(t, 3, 5)
	for _, tree := range []*mtree.Tree{{}, &copied} {
		for _, a := range []uint64{0, 1, 4, 5, 6, top} {
			for _, b := range []uint64{0, 1, 5, 6, top} {
				if proof, e := mproof.Inclusion(tree, a, b); e != api.OK && len(proof) != 0 {
					t.Errorf("Inclusion(%d, %d) = %x, %d", a, b, proof, e)
				}
				if proof, e := mproof.Consistency(tree, a, b); e != api.OK && len(proof) != 0 {
					t.Errorf("Consistency(%d, %d) = %x, %d", a, b, proof, e)
				}
			}
		}
	}
}

// An answer and its spare room are the caller's: what is written there is seen neither in the tree nor in another answer.
func TestMemory_Answers(t *testing.T) {
	tree := treeOf(t, 8, 23)
	root, _ := tree.Root(23)
	for _, call := range []func() ([]api.Digest, api.Errno){
		func() ([]api.Digest, api.Errno) { return mproof.Inclusion(tree, 5, 23) },
		func() ([]api.Digest, api.Errno) { return mproof.Inclusion(tree, 22, 23) },
		func() ([]api.Digest, api.Errno) { return mproof.Consistency(tree, 11, 23) },
		func() ([]api.Digest, api.Errno) { return mproof.Consistency(tree, 16, 23) },
	} {
		first, _ := call()
		second, _ := call()
		before := slices.Clone(second)
		room := first[:cap(first)]
		for i := range room {
			room[i] = api.Digest{0xa5, byte(i)}
		}
		if !slices.Equal(second, before) {
			t.Error("two answers share memory")
		}
		if third, _ := call(); !slices.Equal(third, before) {
			t.Errorf("an answer shares memory with what is asked for later: %x, want %x", third, before)
		}
	}
	if d, _ := tree.Root(23); d != root {
		t.Errorf("the tree changed: %x, was %x", d, root)
	}
}

// P2: the calls hang on their arguments alone, however goroutines run; and they leave the tree as it is.
func TestP2_ManyAtATime(t *testing.T) {
	tree := treeOf(t, 7, 45)
	var want, seams [][]api.Digest
	for i := range uint64(45) {
		want = append(want, digests(t, tree, wordsPath(i, 0, 45)))
		seams = append(seams, digests(t, tree, wordsConsistency(i, 45)))
	}
	var group sync.WaitGroup
	for at := range 16 {
		group.Go(func() {
			for j := range 45 {
				i := (j + 3*at) % 45
				p, e := mproof.Inclusion(tree, uint64(i), 45)
				q, f := mproof.Consistency(tree, uint64(i), 45)
				a, b, g := mproof.Counts(uint64(i), uint64(i), 45)
				if e != api.OK || f != api.OK || g != api.OK || !slices.Equal(p, want[i]) || !slices.Equal(q, seams[i]) || a != len(p) || b != len(q) {
					t.Errorf("goroutine %d: the proofs of %d: %d, %d, %d", at, i, e, f, g)
				}
			}
		})
	}
	group.Wait()
}
