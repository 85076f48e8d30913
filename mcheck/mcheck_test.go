package mcheck_test

import (
	"crypto/sha256"
	"encoding/hex"
	"math"
	"math/bits"
	"math/rand"
	"slices"
	"strconv"
	"sync"
	"testing"

	"notary/api"
	"notary/mcheck"
	"notary/mproof"
	"notary/mtree"
)

const top = math.MaxUint64

// cutSum is the digest of a text, made by another SHA-256.
func cutSum(w int, p []byte) api.Digest {
	whole := sha256.Sum256(p)
	var d api.Digest
	copy(d[:w], whole[:])
	return d
}

func node(w int, l, r api.Digest) api.Digest {
	return cutSum(w, slices.Concat([]byte{1}, l[:w], r[:w]))
}

// some answers count digests of the width w, unlike ones for each seed.
func some(w int, seed string, count int) []api.Digest {
	list := make([]api.Digest, count)
	for i := range list {
		list[i] = cutSum(w, []byte(seed+" "+strconv.Itoa(i)))
	}
	return list
}

// wordsSplit is the chapter's k, by doubling as long as the power stays below.
func wordsSplit(n uint64) uint64 {
	k := uint64(1)
	for k < n-k {
		k *= 2
	}
	return k
}

// wordsRoot is P12.1, i below n.
func wordsRoot(w int, leaf api.Digest, i, n uint64, proof []api.Digest) (api.Digest, bool) {
	if n == 1 {
		return leaf, len(proof) == 0
	}
	if len(proof) == 0 {
		return leaf, false
	}
	k, rest, last := wordsSplit(n), proof[:len(proof)-1], proof[len(proof)-1]
	if i < k {
		d, ok := wordsRoot(w, leaf, i, k, rest)
		return node(w, d, last), ok
	}
	d, ok := wordsRoot(w, leaf, i-k, n-k, rest)
	return node(w, last, d), ok
}

// wordsRoots is P12.3's "the two roots for m and n, whole or not, by a proof", 1 <= m <= n.
func wordsRoots(w int, m, n uint64, whole bool, old api.Digest, proof []api.Digest) (api.Digest, api.Digest, bool) {
	if m == n && whole {
		return old, old, len(proof) == 0
	}
	if len(proof) == 0 {
		return old, old, false
	}
	rest, last := proof[:len(proof)-1], proof[len(proof)-1]
	if m == n {
		return last, last, len(proof) == 1
	}
	k := wordsSplit(n)
	if m <= k {
		a, b, ok := wordsRoots(w, m, k, whole, old, rest)
		return a, node(w, b, last), ok
	}
	a, b, ok := wordsRoots(w, m-k, n-k, false, old, rest)
	return node(w, last, a), node(w, last, b), ok
}

// climb answers the root to which an inclusion proof leads by RFC 9162's way from the leaf up, which splits nothing.
func climb(w int, leaf api.Digest, i, n uint64, proof []api.Digest) (api.Digest, bool) {
	at, last := i, n-1
	for _, d := range proof {
		if last == 0 {
			return api.Digest{}, false
		}
		if at&1 == 1 || at == last {
			leaf = node(w, d, leaf)
			for at&1 == 0 && at != 0 {
				at, last = at>>1, last>>1
			}
		} else {
			leaf = node(w, leaf, d)
		}
		at, last = at>>1, last>>1
	}
	return leaf, last == 0
}

// climbBoth answers the roots of m and of n to which a consistency proof leads, by RFC 9162's way, 0 < m < n.
func climbBoth(w int, m, n uint64, old api.Digest, proof []api.Digest) (api.Digest, api.Digest, bool) {
	if m&(m-1) == 0 {
		proof = slices.Concat([]api.Digest{old}, proof)
	}
	at, last := m-1, n-1
	for at&1 == 1 {
		at, last = at>>1, last>>1
	}
	if len(proof) == 0 {
		return old, old, false
	}
	a, b := proof[0], proof[0]
	for _, d := range proof[1:] {
		if last == 0 {
			return a, b, false
		}
		if at&1 == 1 || at == last {
			a, b = node(w, d, a), node(w, d, b)
			for at&1 == 0 && at != 0 {
				at, last = at>>1, last>>1
			}
		} else {
			b = node(w, b, d)
		}
		at, last = at>>1, last>>1
	}
	return a, b, last == 0
}

// inclusionCount tells by the numbers' bits how long a proof is: one digest for each level up to where the ways to i and to the last leaf part, and one for each turn to the right above.
func inclusionCount(i, n uint64) int {
	inner := bits.Len64(i ^ (n - 1))
	return inner + bits.OnesCount64(i>>inner)
}

// consistencyCount is the same way up, 0 < m < n, begun at the lowest whole subtree at the end of the m, whose own digest is one more unless it is all of them.
func consistencyCount(m, n uint64) int {
	count := inclusionCount(m-1, n) - bits.TrailingZeros64(m)
	if m&(m-1) != 0 {
		count++
	}
	return count
}

// edges answers numbers about the powers of two, and others over all lengths.
func edges() []uint64 {
	list := []uint64{0, top}
	for k := range 64 {
		p := uint64(1) << k
		list = append(list, p-1, p, p+1, top-p, top-p+1, top-p-1)
	}
	r := rand.New(rand.NewSource(121))
	for range 30 {
		list = append(list, r.Uint64()>>r.Intn(64))
	}
	slices.Sort(list)
	return slices.Compact(list)
}

// checkRoot holds RootOf and Inclusion against a root that is known, or against ErrProof where ok is false.
func checkRoot(t *testing.T, w int, leaf api.Digest, i, n uint64, proof []api.Digest, want api.Digest, ok bool) {
	t.Helper()
	e := api.OK
	if !ok {
		want, e = api.Digest{}, api.ErrProof
	}
	if d, f := mcheck.RootOf(w, leaf, i, n, proof); d != want || f != e {
		t.Errorf("width %d: RootOf(%d, %d, %d digests) = %x, %d, want %x, %d", w, i, n, len(proof), d, f, want, e)
	}
	if f := mcheck.Inclusion(w, leaf, i, n, proof, want); f != e {
		t.Errorf("width %d: Inclusion(%d, %d, %d digests) = %d, want %d", w, i, n, len(proof), f, e)
	}
}

// checkRoots holds RootsOf against two roots that are known, or against ErrProof where ok is false.
func checkRoots(t *testing.T, w int, m, n uint64, old api.Digest, proof []api.Digest, a, b api.Digest, ok bool) {
	t.Helper()
	e := api.OK
	if !ok {
		a, b, e = api.Digest{}, api.Digest{}, api.ErrProof
	}
	if x, y, f := mcheck.RootsOf(w, m, n, old, proof); x != a || y != b || f != e {
		t.Errorf("width %d: RootsOf(%d, %d, %d digests) = %x, %x, %d, want %x, %x, %d", w, m, n, len(proof), x, y, f, a, b, e)
	}
}

func TestP12_1_AsTheWordsSay(t *testing.T) {
	for _, w := range []int{1, 4, 32} {
		leaf, proof := some(w, "leaf", 1)[0], some(w, "proof", 10)
		for n := uint64(1); n <= 70; n++ {
			for i := range n {
				for count := range 10 {
					want, ok := wordsRoot(w, leaf, i, n, proof[:count])
					checkRoot(t, w, leaf, i, n, proof[:count], want, ok)
				}
			}
		}
	}
}

func TestP12_1_EachWidth(t *testing.T) {
	for w := 1; w <= api.MaxWidth; w++ {
		leaf, proof := some(w, "leaf", 1)[0], some(w, "proof", 4)
		for i := range uint64(11) {
			count := inclusionCount(i, 11)
			want, ok := climb(w, leaf, i, 11, proof[:count])
			checkRoot(t, w, leaf, i, 11, proof[:count], want, ok)
		}
	}
}

func TestP12_1_AllNumbers(t *testing.T) {
	const w = 5
	leaf, proof := some(w, "leaf", 1)[0], some(w, "proof", 66)
	numbers := edges()
	for _, n := range numbers {
		for at, i := range numbers {
			if i >= n {
				if d, e := mcheck.RootOf(w, leaf, i, n, proof[:at%66]); d != (api.Digest{}) || e != api.ErrRange {
					t.Errorf("RootOf(%d, %d) = %x, %d", i, n, d, e)
				}
				continue
			}
			count := inclusionCount(i, n)
			if at%7 == 0 { // the hashing is what takes long
				want, ok := climb(w, leaf, i, n, proof[:count])
				if !ok {
					t.Fatalf("the other way up says otherwise of the count for %d, %d", i, n)
				}
				checkRoot(t, w, leaf, i, n, proof[:count], want, true)
			}
			checkRoot(t, w, leaf, i, n, proof[:count+1], api.Digest{}, false)
			if count > 0 {
				checkRoot(t, w, leaf, i, n, proof[:count-1], api.Digest{}, false)
			}
		}
	}
}

// The count is fixed by i and n: one digest more or less, or many more, is refused, and the longest proof has 64.
func TestP12_1_Counts(t *testing.T) {
	const w = 3
	leaf, proof := some(w, "leaf", 1)[0], some(w, "proof", 200)
	for _, c := range []struct {
		i, n  uint64
		count int
	}{
		{0, top, 64}, {top - 1, top, 63}, {1 << 63, 1<<63 + 1, 1}, {0, 1<<63 + 1, 64}, {1<<63 - 1, 1 << 63, 63}, {0, 1 << 63, 63}, {1<<63 - 1, top, 64}, {1 << 63, top, 64}, {0, 1, 0}, {0, 2, 1}, {2, 3, 1}, {0, 3, 2}, {1 << 62, 1<<62 + 1, 1},
	} {
		for count := range 200 {
			if _, e := mcheck.RootOf(w, leaf, c.i, c.n, proof[:count]); (e == api.OK) != (count == c.count) || e != api.OK && e != api.ErrProof {
				t.Errorf("RootOf(%d, %d, %d digests): %d, %d digests are right", c.i, c.n, count, e, c.count)
			}
		}
	}
}

func TestP12_1_Errors(t *testing.T) {
	const w = 4
	x, good := some(w, "leaf", 1)[0], some(w, "proof", 70)
	long := api.Digest{4: 1} // a byte behind the width
	end := api.Digest{31: 0x80}
	for _, c := range []struct {
		w     int
		leaf  api.Digest
		i, n  uint64
		proof []api.Digest
		want  api.Errno
	}{
		{0, x, 0, 1, nil, api.ErrArg}, {-1, x, 0, 1, nil, api.ErrArg}, {33, x, 0, 1, nil, api.ErrArg}, {math.MaxInt, x, 0, 1, nil, api.ErrArg}, {math.MinInt, x, 0, 1, nil, api.ErrArg},
		{0, long, 0, 0, good, api.ErrArg}, {33, end, 5, 1, []api.Digest{end}, api.ErrArg},
		{w, long, 0, 1, nil, api.ErrForm}, {w, end, 0, 1, nil, api.ErrForm}, {3, x, 0, 1, nil, api.ErrForm},
		{w, long, 1, 1, nil, api.ErrForm}, {w, x, 0, 0, []api.Digest{long}, api.ErrForm}, {w, x, 0, 1, []api.Digest{end}, api.ErrForm},
		{w, x, 1, 3, []api.Digest{long, good[0]}, api.ErrForm}, {w, x, 1, 3, []api.Digest{good[0], end}, api.ErrForm}, {w, x, 1, 3, []api.Digest{good[0], good[1], long}, api.ErrForm}, {w, x, 0, 1, append(slices.Clone(good), end), api.ErrForm},
		{w, x, 0, 0, nil, api.ErrRange}, {w, x, 3, 3, good[:2], api.ErrRange}, {w, x, 4, 3, good[:1], api.ErrRange}, {w, x, top, top, good[:64], api.ErrRange}, {w, x, top, 0, nil, api.ErrRange}, {w, x, top, 1, good, api.ErrRange}, {w, x, 1, 1, nil, api.ErrRange},
		{w, x, 0, 1, good[:1], api.ErrProof}, {w, x, 0, 2, nil, api.ErrProof}, {w, x, 1, 2, nil, api.ErrProof}, {w, x, 0, 2, good[:2], api.ErrProof}, {w, x, 2, 3, good[:2], api.ErrProof}, {w, x, 1, 3, good[:1], api.ErrProof}, {w, x, 0, top, good[:63], api.ErrProof}, {w, x, 0, top, good[:65], api.ErrProof}, {w, x, 0, top, nil, api.ErrProof},
		{w, x, 0, 1, nil, api.OK}, {w, x, 0, 1, []api.Digest{}, api.OK}, {32, end, 0, 1, nil, api.OK}, {5, long, 0, 2, []api.Digest{long}, api.OK},
	} {
		d, e := mcheck.RootOf(c.w, c.leaf, c.i, c.n, c.proof)
		if e != c.want || e != api.OK && d != (api.Digest{}) {
			t.Errorf("RootOf(%d, %x, %d, %d, %x) = %x, %d, want %d", c.w, c.leaf, c.i, c.n, c.proof, d, e, c.want)
		}
		if e := mcheck.Inclusion(c.w, c.leaf, c.i, c.n, c.proof, d); e != c.want {
			t.Errorf("Inclusion(%d, %x, %d, %d, %x) = %d, want %d", c.w, c.leaf, c.i, c.n, c.proof, e, c.want)
		}
	}
}

func TestP12_2_NoOtherRoot(t *testing.T) {
	for _, w := range []int{1, 7, 32} {
		leaf, proof := some(w, "leaf", 1)[0], some(w, "proof", 5)
		for _, n := range []uint64{1, 2, 3, 8, 13} {
			for i := range n {
				fit := proof[:inclusionCount(i, n)]
				root, _ := climb(w, leaf, i, n, fit)
				if e := mcheck.Inclusion(w, leaf, i, n, fit, root); e != api.OK {
					t.Errorf("width %d: Inclusion(%d, %d) = %d", w, i, n, e)
				}
				for bit := range 8 * w {
					other := root
					other[bit/8] ^= 1 << (bit % 8)
					if e := mcheck.Inclusion(w, leaf, i, n, fit, other); e != api.ErrProof {
						t.Errorf("width %d: Inclusion(%d, %d) with bit %d of the root turned: %d", w, i, n, bit, e)
					}
				}
			}
		}
	}
}

func TestP12_2_ErrorsOfTheRoot(t *testing.T) {
	const w = 4
	x, proof := some(w, "leaf", 1)[0], some(w, "proof", 2)
	root, _ := climb(w, x, 1, 3, proof)
	bad := root
	bad[4] = 1
	for _, c := range []struct {
		w    int
		i, n uint64
		leaf api.Digest
		p    []api.Digest
		root api.Digest
		want api.Errno
	}{
		{w, 1, 3, x, proof, root, api.OK},
		{w, 1, 3, x, proof, api.Digest{}, api.ErrProof},
		{w, 1, 3, x, proof[:1], root, api.ErrProof},
		{w, 1, 3, x, proof[:1], api.Digest{}, api.ErrProof}, // what stands beside RootOf's error is no root
		{w, 1, 3, x, slices.Concat(proof, proof), root, api.ErrProof},
		{w, 0, 3, x, proof, root, api.ErrProof},
		{w, 3, 3, x, proof, root, api.ErrRange},
		{w, 3, 3, x, proof, api.Digest{}, api.ErrRange},
		{w, 0, 0, x, nil, x, api.ErrRange},
		{w, 1, 3, x, proof, bad, api.ErrForm},
		{w, 3, 3, x, proof, bad, api.ErrForm},
		{w, 1, 3, bad, proof, root, api.ErrForm},
		{w, 1, 3, x, []api.Digest{bad, proof[1]}, root, api.ErrForm},
		{w, 1, 3, x, []api.Digest{proof[0], bad}, root, api.ErrForm},
		{w, 1, 3, x, nil, bad, api.ErrForm},
		{3, 1, 3, x, proof, root, api.ErrForm},
		{0, 3, 3, bad, proof, bad, api.ErrArg},
		{33, 1, 3, x, proof, root, api.ErrArg},
		{-4, 1, 3, x, proof, root, api.ErrArg},
	} {
		if e := mcheck.Inclusion(c.w, c.leaf, c.i, c.n, c.p, c.root); e != c.want {
			t.Errorf("Inclusion(%d, %x, %d, %d, %x, %x) = %d, want %d", c.w, c.leaf, c.i, c.n, c.p, c.root, e, c.want)
		}
	}
}

func TestP12_3_AsTheWordsSay(t *testing.T) {
	for _, w := range []int{1, 4, 32} {
		old, proof := some(w, "old", 1)[0], some(w, "proof", 10)
		for n := uint64(2); n <= 70; n++ {
			for m := uint64(1); m < n; m++ {
				for count := range 10 {
					a, b, ok := wordsRoots(w, m, n, true, old, proof[:count])
					checkRoots(t, w, m, n, old, proof[:count], a, b, ok)
				}
			}
		}
	}
}

func TestP12_3_EachWidth(t *testing.T) {
	for w := 1; w <= api.MaxWidth; w++ {
		old, proof := some(w, "old", 1)[0], some(w, "proof", 5)
		for m := uint64(1); m < 11; m++ {
			count := consistencyCount(m, 11)
			a, b, ok := climbBoth(w, m, 11, old, proof[:count])
			checkRoots(t, w, m, 11, old, proof[:count], a, b, ok)
		}
	}
}

func TestP12_3_AllNumbers(t *testing.T) {
	const w = 5
	old, proof := some(w, "old", 1)[0], some(w, "proof", 67)
	numbers := edges()
	for _, n := range numbers {
		for at, m := range numbers {
			if m == 0 || m >= n {
				if a, b, e := mcheck.RootsOf(w, m, n, old, proof[:at%67]); a != (api.Digest{}) || b != (api.Digest{}) || e != api.ErrRange {
					t.Errorf("RootsOf(%d, %d) = %x, %x, %d", m, n, a, b, e)
				}
				continue
			}
			count := consistencyCount(m, n)
			if at%7 == 0 {
				a, b, ok := climbBoth(w, m, n, old, proof[:count])
				if !ok {
					t.Fatalf("the other way up says otherwise of the count for %d, %d", m, n)
				}
				checkRoots(t, w, m, n, old, proof[:count], a, b, true)
			}
			checkRoots(t, w, m, n, old, proof[:count+1], api.Digest{}, api.Digest{}, false)
			if count > 0 {
				checkRoots(t, w, m, n, old, proof[:count-1], api.Digest{}, api.Digest{}, false)
			}
		}
	}
}

func TestP12_3_Counts(t *testing.T) {
	const w = 3
	old, proof := some(w, "old", 1)[0], some(w, "proof", 200)
	for _, c := range []struct {
		m, n  uint64
		count int
	}{
		{1, 2, 1}, {2, 5, 2}, {3, 7, 4}, {6, 8, 3}, {4, 7, 1}, {6, 7, 3}, {1, top, 64}, {3, top, 65}, {top - 1, top, 64}, {1 << 63, 1<<63 + 1, 1}, {1 << 63, top, 1}, {1, 1 << 63, 63}, {1<<63 - 1, 1 << 63, 64}, {1<<63 - 1, 1<<63 + 1, 65},
	} {
		for count := range 200 {
			if _, _, e := mcheck.RootsOf(w, c.m, c.n, old, proof[:count]); (e == api.OK) != (count == c.count) || e != api.OK && e != api.ErrProof {
				t.Errorf("RootsOf(%d, %d, %d digests): %d, %d digests are right", c.m, c.n, count, e, c.count)
			}
		}
	}
}

// The older root is taken where m is a power of two, and else not looked at but for its form.
func TestP12_3_WhereTheOlderRootIsTaken(t *testing.T) {
	const w = 6
	olds, proof := some(w, "old", 2), some(w, "proof", 8)
	for n := uint64(2); n <= 40; n++ {
		for m := uint64(1); m < n; m++ {
			fit := proof[:consistencyCount(m, n)]
			a, b, e := mcheck.RootsOf(w, m, n, olds[0], fit)
			c, d, f := mcheck.RootsOf(w, m, n, olds[1], fit)
			power := m&(m-1) == 0
			if e != api.OK || f != api.OK || (a == olds[0] && c == olds[1]) != power || (a == c) == power || (b == d) == power {
				t.Errorf("RootsOf(%d, %d) = %x, %x, %d and %x, %x, %d", m, n, a, b, e, c, d, f)
			}
			bad := olds[0]
			bad[31] = 1
			if a, b, e := mcheck.RootsOf(w, m, n, bad, fit); a != (api.Digest{}) || b != (api.Digest{}) || e != api.ErrForm {
				t.Errorf("RootsOf(%d, %d) of an older root that is not of the width = %x, %x, %d", m, n, a, b, e)
			}
		}
	}
}

func TestP12_3_Errors(t *testing.T) {
	const w = 4
	o, good := some(w, "old", 1)[0], some(w, "proof", 70)
	long, end := api.Digest{4: 1}, api.Digest{31: 0x80}
	for _, c := range []struct {
		w     int
		m, n  uint64
		old   api.Digest
		proof []api.Digest
		want  api.Errno
	}{
		{0, 1, 2, o, good[:1], api.ErrArg}, {-1, 1, 2, o, good[:1], api.ErrArg}, {33, 1, 2, o, good[:1], api.ErrArg}, {math.MaxInt, 0, 0, end, nil, api.ErrArg}, {math.MinInt, 2, 1, end, []api.Digest{end}, api.ErrArg},
		{w, 1, 2, long, good[:1], api.ErrForm}, {w, 3, 7, end, good[:4], api.ErrForm}, {w, 0, 0, end, nil, api.ErrForm}, {w, 1, 2, o, []api.Digest{long}, api.ErrForm}, {w, 3, 7, o, []api.Digest{good[0], good[1], good[2], end}, api.ErrForm}, {w, 3, 7, o, []api.Digest{end, good[1], good[2], good[3]}, api.ErrForm}, {w, 5, 5, o, []api.Digest{long}, api.ErrForm}, {w, 1, 2, o, []api.Digest{good[0], long}, api.ErrForm}, {3, 1, 2, o, nil, api.ErrForm},
		{w, 0, 0, o, nil, api.ErrRange}, {w, 0, 1, o, nil, api.ErrRange}, {w, 0, 5, o, nil, api.ErrRange}, {w, 1, 1, o, nil, api.ErrRange}, {w, 3, 3, o, nil, api.ErrRange}, {w, 3, 3, o, good[:1], api.ErrRange}, {w, 6, 5, o, good[:2], api.ErrRange}, {w, top, top, o, good[:64], api.ErrRange}, {w, top, 0, o, nil, api.ErrRange}, {w, 0, top, o, nil, api.ErrRange}, {w, top, top - 1, o, nil, api.ErrRange},
		{w, 1, 2, o, nil, api.ErrProof}, {w, 1, 2, o, good[:2], api.ErrProof}, {w, 2, 5, o, good[:1], api.ErrProof}, {w, 2, 5, o, good[:3], api.ErrProof}, {w, 3, 7, o, good[:3], api.ErrProof}, {w, 3, 7, o, good[:5], api.ErrProof}, {w, 3, 4, o, nil, api.ErrProof}, {w, 1, top, o, good[:63], api.ErrProof}, {w, 1, top, o, good[:65], api.ErrProof}, {w, 3, top, o, good[:64], api.ErrProof}, {w, 3, top, o, good[:66], api.ErrProof},
		{w, 1, 2, o, good[:1], api.OK}, {w, 3, 7, o, good[:4], api.OK}, {32, 1, 2, end, []api.Digest{end}, api.OK}, {w, 3, 7, api.Digest{}, make([]api.Digest, 4), api.OK},
	} {
		a, b, e := mcheck.RootsOf(c.w, c.m, c.n, c.old, c.proof)
		if e != c.want || e != api.OK && (a != (api.Digest{}) || b != (api.Digest{})) {
			t.Errorf("RootsOf(%d, %d, %d, %x, %x) = %x, %x, %d, want %d", c.w, c.m, c.n, c.old, c.proof, a, b, e, c.want)
		}
	}
}

func TestP12_4_NoOtherRoots(t *testing.T) {
	for _, w := range []int{1, 7, 32} {
		first, proof := some(w, "old", 1)[0], some(w, "proof", 6)
		for _, n := range []uint64{2, 3, 8, 13} {
			for m := uint64(1); m < n; m++ {
				fit := proof[:consistencyCount(m, n)]
				old, root, _ := climbBoth(w, m, n, first, fit)
				if e := mcheck.Consistency(w, m, n, old, root, fit); e != api.OK {
					t.Errorf("width %d: Consistency(%d, %d) = %d", w, m, n, e)
				}
				for bit := range 8 * w {
					a, b := old, root
					a[bit/8] ^= 1 << (bit % 8)
					b[bit/8] ^= 1 << (bit % 8)
					x, y, _ := climbBoth(w, m, n, a, fit)
					want := api.ErrProof
					if x == a && y == root { // at small widths another older root may lead to the same newer one
						want = api.OK
					}
					if e := mcheck.Consistency(w, m, n, a, root, fit); e != want {
						t.Errorf("width %d: Consistency(%d, %d) with bit %d of the older root turned: %d, want %d", w, m, n, bit, e, want)
					}
					if e := mcheck.Consistency(w, m, n, old, b, fit); e != api.ErrProof {
						t.Errorf("width %d: Consistency(%d, %d) with bit %d of the newer root turned: %d", w, m, n, bit, e)
					}
				}
			}
		}
	}
}

func TestP12_4_OneSize(t *testing.T) {
	for _, w := range []int{1, 20, 32} {
		d := some(w, "root", 2)
		none := cutSum(w, nil)
		for _, n := range []uint64{0, 1, 2, 3, 8, 1 << 63, top} {
			for _, c := range []struct {
				old, root api.Digest
				proof     []api.Digest
				want      api.Errno
			}{
				{d[0], d[0], nil, api.OK}, {d[0], d[0], []api.Digest{}, api.OK}, {none, none, nil, api.OK}, {api.Digest{}, api.Digest{}, nil, api.OK},
				{d[0], d[1], nil, api.ErrProof}, {d[0], none, nil, api.ErrProof}, {none, d[1], nil, api.ErrProof},
				{d[0], d[0], d[:1], api.ErrProof}, {none, none, d, api.ErrProof}, {d[0], d[1], d[:1], api.ErrProof},
			} {
				if e := mcheck.Consistency(w, n, n, c.old, c.root, c.proof); e != c.want {
					t.Errorf("width %d: Consistency(%d, %d, %x, %x, %x) = %d, want %d", w, n, n, c.old, c.root, c.proof, e, c.want)
				}
			}
		}
	}
}

func TestP12_4_FromNothing(t *testing.T) {
	for w := 1; w <= api.MaxWidth; w++ {
		d := some(w, "root", 2)
		none := cutSum(w, nil)
		for _, n := range []uint64{1, 2, 5, 8, 1 << 63, top} {
			for _, c := range []struct {
				old, root api.Digest
				proof     []api.Digest
				want      api.Errno
			}{
				{none, d[0], nil, api.OK}, {none, d[1], []api.Digest{}, api.OK}, {none, none, nil, api.OK}, {none, api.Digest{}, nil, api.OK},
				{d[0], d[0], nil, api.ErrProof}, {d[0], none, nil, api.ErrProof}, {api.Digest{}, d[0], nil, api.ErrProof},
				{none, d[0], d[:1], api.ErrProof}, {none, none, d, api.ErrProof}, {none, d[0], []api.Digest{none}, api.ErrProof},
			} {
				if e := mcheck.Consistency(w, 0, n, c.old, c.root, c.proof); e != c.want {
					t.Errorf("width %d: Consistency(0, %d, %x, %x, %x) = %d, want %d", w, n, c.old, c.root, c.proof, e, c.want)
				}
			}
		}
	}
}

func TestP12_4_AllNumbers(t *testing.T) {
	const w = 5
	first, proof := some(w, "old", 1)[0], some(w, "proof", 67)
	numbers := edges()
	for at, n := range numbers {
		for other, m := range numbers {
			if (at+other)%11 != 0 && m != n && m != 0 {
				continue
			}
			old, root, fit, want := first, first, proof[:0], api.OK
			switch {
			case m > n:
				want = api.ErrRange
			case m == n:
			case m == 0:
				old = cutSum(w, nil)
			default:
				fit = proof[:consistencyCount(m, n)]
				old, root, _ = climbBoth(w, m, n, first, fit)
			}
			if e := mcheck.Consistency(w, m, n, old, root, fit); e != want {
				t.Errorf("Consistency(%d, %d, %d digests) = %d, want %d", m, n, len(fit), e, want)
			}
			if want == api.OK {
				want = api.ErrProof
			}
			if e := mcheck.Consistency(w, m, n, old, root, proof[:len(fit)+1]); e != want {
				t.Errorf("Consistency(%d, %d, %d digests) = %d, want %d", m, n, len(fit)+1, e, want)
			}
		}
	}
}

func TestP12_4_Errors(t *testing.T) {
	const w = 4
	o, good := some(w, "old", 1)[0], some(w, "proof", 4)
	none := cutSum(w, nil)
	a, b, _ := climbBoth(w, 3, 7, o, good)
	bad := api.Digest{4: 1}
	for _, c := range []struct {
		w         int
		m, n      uint64
		old, root api.Digest
		proof     []api.Digest
		want      api.Errno
	}{
		{w, 3, 7, a, b, good, api.OK},
		{w, 3, 7, b, a, good, api.ErrProof},
		{w, 3, 7, o, b, good, api.ErrProof},
		{w, 3, 7, a, b, good[:3], api.ErrProof},
		{w, 3, 7, api.Digest{}, api.Digest{}, good[:3], api.ErrProof}, // what stands beside RootsOf's error is no root
		{w, 3, 7, a, b, nil, api.ErrProof},
		{w, 3, 8, a, b, good, api.OK}, // the way up is that of 3 and 7: the size is no part of a digest
		{w, 3, 9, a, b, good, api.ErrProof},
		{w, 4, 7, a, b, good, api.ErrProof},
		{w, 7, 3, b, a, good, api.ErrRange},
		{w, 1, 0, none, none, nil, api.ErrRange},
		{w, 6, 5, o, o, nil, api.ErrRange},
		{w, top, top - 1, o, o, nil, api.ErrRange},
		{w, 3, 7, bad, b, good, api.ErrForm},
		{w, 3, 7, a, bad, good, api.ErrForm},
		{w, 3, 7, a, b, []api.Digest{good[0], good[1], good[2], bad}, api.ErrForm},
		{w, 3, 7, a, b, []api.Digest{bad}, api.ErrForm},
		{w, 3, 3, bad, bad, nil, api.ErrForm},
		{w, 3, 3, o, o, []api.Digest{bad}, api.ErrForm},
		{w, 0, 0, bad, bad, nil, api.ErrForm},
		{w, 0, 5, none, bad, nil, api.ErrForm},
		{w, 0, 5, bad, o, nil, api.ErrForm},
		{w, 0, 5, none, o, []api.Digest{bad}, api.ErrForm},
		{w, 6, 5, bad, o, nil, api.ErrForm},
		{w, 6, 5, o, bad, nil, api.ErrForm},
		{w, 6, 5, o, o, []api.Digest{bad}, api.ErrForm},
		{3, 3, 7, a, b, good, api.ErrForm},
		{0, 3, 7, a, b, good, api.ErrArg},
		{33, 3, 7, a, b, good, api.ErrArg},
		{-1, 7, 3, bad, bad, []api.Digest{bad}, api.ErrArg},
		{0, 0, 0, o, o, nil, api.ErrArg},
		{math.MinInt, 0, 5, none, o, nil, api.ErrArg},
	} {
		if e := mcheck.Consistency(c.w, c.m, c.n, c.old, c.root, c.proof); e != c.want {
			t.Errorf("Consistency(%d, %d, %d, %x, %x, %x) = %d, want %d", c.w, c.m, c.n, c.old, c.root, c.proof, e, c.want)
		}
	}
}

// treeOf answers a tree of n leaves of the width w.
func treeOf(t *testing.T, w, n int) *mtree.Tree {
	t.Helper()
	tree, e := mtree.New(w)
	if e != api.OK {
		t.Fatalf("New(%d): %d", w, e)
	}
	tree, e = tree.Append(some(w, "tree", n)...)
	if e != api.OK {
		t.Fatalf("Append of %d leaves: %d", n, e)
	}
	return tree
}

func TestP12_5_TreesAndTheirProofs(t *testing.T) {
	for _, w := range []int{1, 2, 32} {
		tree := treeOf(t, w, 100)
		for n := range uint64(101) {
			root, _ := tree.Root(n)
			for i := range n {
				leaf, _ := tree.Leaf(i)
				proof, _ := mproof.Inclusion(tree, i, n)
				if e := mcheck.Inclusion(w, leaf, i, n, proof, root); e != api.OK {
					t.Errorf("width %d: the proof of %d in %d is refused: %d", w, i, n, e)
				}
			}
			for m := range n + 1 {
				old, _ := tree.Root(m)
				proof, _ := mproof.Consistency(tree, m, n)
				if e := mcheck.Consistency(w, m, n, old, root, proof); e != api.OK {
					t.Errorf("width %d: the proof of %d and %d is refused: %d", w, m, n, e)
				}
			}
		}
	}
}

// spoilt answers lists that are nearly the proof: one less, one more, two that change places, a bit turned, the order turned round.
func spoilt(proof []api.Digest, more api.Digest) [][]api.Digest {
	lists := [][]api.Digest{slices.Insert(slices.Clone(proof), 0, more), append(slices.Clone(proof), more)}
	for at := range proof {
		lists = append(lists, slices.Delete(slices.Clone(proof), at, at+1))
		turned := slices.Clone(proof)
		turned[at][at] ^= 0x10
		lists = append(lists, turned)
		if at > 0 {
			swapped := slices.Clone(proof)
			swapped[at-1], swapped[at] = swapped[at], swapped[at-1]
			lists = append(lists, swapped)
		}
	}
	if len(proof) > 1 {
		back := slices.Clone(proof)
		slices.Reverse(back)
		lists = append(lists, back)
	}
	return lists
}

// At the full width nothing is accepted but the tree's own proofs.
func TestP12_5_NothingElse(t *testing.T) {
	const w = 32
	tree := treeOf(t, w, 21)
	for n := uint64(1); n <= 21; n++ {
		root, _ := tree.Root(n)
		for i := range n {
			leaf, _ := tree.Leaf(i)
			proof, _ := mproof.Inclusion(tree, i, n)
			for _, list := range spoilt(proof, leaf) {
				if e := mcheck.Inclusion(w, leaf, i, n, list, root); e != api.ErrProof {
					t.Errorf("the proof of %d in %d, spoilt: %d", i, n, e)
				}
			}
			for other := range n {
				unlike, _ := tree.Leaf(other)
				if e := mcheck.Inclusion(w, unlike, i, n, proof, root); (e == api.OK) != (other == i) {
					t.Errorf("the proof of %d in %d for the leaf %d: %d", i, n, other, e)
				}
				if e := mcheck.Inclusion(w, leaf, other, n, proof, root); (e == api.OK) != (other == i) {
					t.Errorf("the proof of %d in %d for the index %d: %d", i, n, other, e)
				}
			}
		}
		for m := uint64(1); m < n; m++ {
			old, _ := tree.Root(m)
			proof, _ := mproof.Consistency(tree, m, n)
			for _, list := range spoilt(proof, old) {
				if e := mcheck.Consistency(w, m, n, old, root, list); e != api.ErrProof {
					t.Errorf("the proof of %d and %d, spoilt: %d", m, n, e)
				}
			}
			for other := uint64(1); other < n; other++ {
				unlike, _ := tree.Root(other)
				if e := mcheck.Consistency(w, m, n, unlike, root, proof); (e == api.OK) != (other == m) {
					t.Errorf("the proof of %d and %d for the root of %d: %d", m, n, other, e)
				}
			}
		}
	}
}

func unhex(t *testing.T, texts ...string) []api.Digest {
	t.Helper()
	var list []api.Digest
	for _, text := range texts {
		p, err := hex.DecodeString(text)
		if err != nil || len(p) != 32 {
			t.Fatalf("%q is no digest", text)
		}
		list = append(list, api.Digest(p))
	}
	return list
}

// The tree that the logs of certificates are tested with everywhere: the leaves are of the texts "", 00, 10, 2021, 3031, 40414243, 5051525354555657 and 606162636465666768696a6b6c6d6e6f in base 16.
func TestP12_5_AsInOtherLogs(t *testing.T) {
	roots := unhex(t,
		"6e340b9cffb37a989ca544e6bb780a2c78901d3fb33738768511a30617afa01d",
		"fac54203e7cc696cf0dfcb42c92a1d9dbaf70ad9e621f4bd8d98662f00e3c125",
		"aeb6bcfe274b70a14fb067a5e5578264db0fa9b51af5e0ba159158f329e06e77",
		"d37ee418976dd95753c1c73862b9398fa2a2cf9b4ff0fdfe8b30cd95209614b7",
		"4e3bbb1f7b478dcfe71fb631631519a3bca12c9aefca1612bfce4c13a86264d4",
		"76e67dadbcdf1e10e1b74ddc608abd2f98dfb16fbce75277b5232a127f2087ef",
		"ddb89be403809e325750d3d263cd78929c2942b7942a34b77e122c9594a74c8c",
		"5dc9da79a70659a9ad559cb701ded9a2ab9d823aad2f4960cfe370eff4604328")
	for _, c := range []struct {
		text  string
		i, n  uint64
		proof []string
	}{
		{"", 0, 1, nil},
		{"", 0, 8, []string{"96a296d224f285c67bee93c30f8a309157f0daa35dc5b87e410b78630a09cfc7", "5f083f0a1a33ca076a95279832580db3e0ef4584bdff1f54c8a360f50de3031e", "6b47aaf29ee3c2af9af889bc1fb9254dabd31177f16232dd6aab035ca39bf6e4"}},
		{"\x40\x41\x42\x43", 5, 8, []string{"bc1a0643b12e4d2d7c77918f44e0f4f79a838b6cf9ec5b5c283e1f4d88599e6b", "ca854ea128ed050b41b35ffc1b87b8eb2bde461e9e3b5596ece6b9d5975a0ae0", "d37ee418976dd95753c1c73862b9398fa2a2cf9b4ff0fdfe8b30cd95209614b7"}},
		{"\x10", 2, 3, []string{"fac54203e7cc696cf0dfcb42c92a1d9dbaf70ad9e621f4bd8d98662f00e3c125"}},
	} {
		leaf := cutSum(32, append([]byte{0}, c.text...))
		if e := mcheck.Inclusion(32, leaf, c.i, c.n, unhex(t, c.proof...), roots[c.n-1]); e != api.OK {
			t.Errorf("Inclusion(%d, %d) = %d", c.i, c.n, e)
		}
	}
	for _, c := range []struct {
		m, n  uint64
		proof []string
	}{
		{1, 1, nil},
		{1, 8, []string{"96a296d224f285c67bee93c30f8a309157f0daa35dc5b87e410b78630a09cfc7", "5f083f0a1a33ca076a95279832580db3e0ef4584bdff1f54c8a360f50de3031e", "6b47aaf29ee3c2af9af889bc1fb9254dabd31177f16232dd6aab035ca39bf6e4"}},
		{6, 8, []string{"0ebc5d3437fbe2db158b9f126a1d118e308181031d0a949f8dededebc558ef6a", "ca854ea128ed050b41b35ffc1b87b8eb2bde461e9e3b5596ece6b9d5975a0ae0", "d37ee418976dd95753c1c73862b9398fa2a2cf9b4ff0fdfe8b30cd95209614b7"}},
		{2, 5, []string{"5f083f0a1a33ca076a95279832580db3e0ef4584bdff1f54c8a360f50de3031e", "bc1a0643b12e4d2d7c77918f44e0f4f79a838b6cf9ec5b5c283e1f4d88599e6b"}},
	} {
		if e := mcheck.Consistency(32, c.m, c.n, roots[c.m-1], roots[c.n-1], unhex(t, c.proof...)); e != api.OK {
			t.Errorf("Consistency(%d, %d) = %d", c.m, c.n, e)
		}
	}
}

// inputs is what one Node was asked.
type inputs struct{ l, r api.Digest }

// wayDown answers the inputs of the Nodes of an inclusion proof, the root's first.
func wayDown(w int, leaf api.Digest, i, n uint64, proof []api.Digest) []inputs {
	if n == 1 {
		return nil
	}
	k, rest, last := wordsSplit(n), proof[:len(proof)-1], proof[len(proof)-1]
	if i < k {
		d, _ := wordsRoot(w, leaf, i, k, rest)
		return append([]inputs{{d, last}}, wayDown(w, leaf, i, k, rest)...)
	}
	d, _ := wordsRoot(w, leaf, i-k, n-k, rest)
	return append([]inputs{{last, d}}, wayDown(w, leaf, i-k, n-k, rest)...)
}

// seamDown answers the inputs of the newer root's Nodes of a consistency proof, the root's first.
func seamDown(w int, m, n uint64, whole bool, old api.Digest, proof []api.Digest) []inputs {
	if m == n {
		return nil
	}
	k, rest, last := wordsSplit(n), proof[:len(proof)-1], proof[len(proof)-1]
	if m <= k {
		_, d, _ := wordsRoots(w, m, k, whole, old, rest)
		return append([]inputs{{d, last}}, seamDown(w, m, k, whole, old, rest)...)
	}
	_, d, _ := wordsRoots(w, m-k, n-k, false, old, rest)
	return append([]inputs{{last, d}}, seamDown(w, m-k, n-k, false, old, rest)...)
}

// clash tells whether two ways down from one root part at two unlike inputs of one digest.
func clash(w int, a, b []inputs) bool {
	for at := range a {
		if a[at] != b[at] {
			return node(w, a[at].l, a[at].r) == node(w, b[at].l, b[at].r)
		}
	}
	return false
}

// At the width 1 unlike leaves often lead to one root: whenever they are accepted, two inputs of Node clash.
func TestP12_6_TwoLeaves(t *testing.T) {
	const w = 1
	r := rand.New(rand.NewSource(126))
	met := 0
	for _, n := range []uint64{2, 3, 5, 8, 13} {
		for range 60 {
			i := r.Uint64() % n
			firstOf := map[api.Digest]int{}
			var leaves []api.Digest
			var proofs [][]api.Digest
			for at := range 40 {
				leaf := api.Digest{byte(r.Int())}
				proof := make([]api.Digest, inclusionCount(i, n))
				for j := range proof {
					proof[j] = api.Digest{byte(r.Int())}
				}
				leaves, proofs = append(leaves, leaf), append(proofs, proof)
				root, e := mcheck.RootOf(w, leaf, i, n, proof)
				if e != api.OK {
					t.Fatalf("RootOf(%d, %d): %d", i, n, e)
				}
				first, ok := firstOf[root]
				if !ok {
					firstOf[root] = at
					continue
				}
				if leaves[first] == leaf {
					continue
				}
				met++
				if !clash(w, wayDown(w, leaf, i, n, proof), wayDown(w, leaves[first], i, n, proofs[first])) {
					t.Errorf("the leaves %x and %x at %d in %d lead to %x, and no inputs clash", leaf, leaves[first], i, n, root)
				}
			}
		}
	}
	if met < 100 {
		t.Errorf("only %d pairs of leaves were met", met)
	}
}

func TestP12_6_TwoOlderRoots(t *testing.T) {
	const w = 1
	r := rand.New(rand.NewSource(1260))
	met := 0
	for _, n := range []uint64{2, 3, 5, 8, 13} {
		for range 60 {
			m := 1 + r.Uint64()%(n-1)
			firstOf := map[api.Digest]int{}
			var olds []api.Digest
			var proofs [][]api.Digest
			for at := range 40 {
				proof := make([]api.Digest, consistencyCount(m, n))
				for j := range proof {
					proof[j] = api.Digest{byte(r.Int())}
				}
				old, root, e := mcheck.RootsOf(w, m, n, api.Digest{byte(r.Int())}, proof)
				if e != api.OK || mcheck.Consistency(w, m, n, old, root, proof) != api.OK {
					t.Fatalf("RootsOf(%d, %d): %d", m, n, e)
				}
				olds, proofs = append(olds, old), append(proofs, proof)
				first, ok := firstOf[root]
				if !ok {
					firstOf[root] = at
					continue
				}
				if olds[first] == old {
					continue
				}
				met++
				if !clash(w, seamDown(w, m, n, true, old, proof), seamDown(w, m, n, true, olds[first], proofs[first])) {
					t.Errorf("the roots %x and %x of %d lead to %x of %d, and no inputs clash", old, olds[first], m, root, n)
				}
			}
		}
	}
	if met < 100 {
		t.Errorf("only %d pairs of roots were met", met)
	}
}

func TestP12_Examples(t *testing.T) {
	const w = 32
	d := some(w, "example", 6)
	x, y, z, a, b, c := d[0], d[1], d[2], d[3], d[4], d[5]
	o, dd := some(w, "old", 1)[0], some(w, "last", 1)[0]
	none := cutSum(w, nil)
	n := func(l, r api.Digest) api.Digest { return node(w, l, r) }
	type list = []api.Digest
	checkRoot(t, w, x, 0, 1, nil, x, true)
	checkRoot(t, w, x, 0, 1, list{y}, x, false)
	checkRoot(t, w, x, 1, 2, list{y}, n(y, x), true)
	checkRoot(t, w, x, 2, 3, list{y}, n(y, x), true)
	checkRoot(t, w, x, 1, 3, list{y, z}, n(n(y, x), z), true)
	checkRoot(t, w, x, 4, 5, list{y}, n(y, x), true)
	checkRoot(t, w, x, 5, 8, list{a, b, c}, n(c, n(n(a, x), b)), true)
	if _, e := mcheck.RootOf(w, x, 3, 3, list{y, z}); e != api.ErrRange {
		t.Errorf("RootOf(3, 3) = %d", e)
	}
	if _, e := mcheck.RootOf(w, x, 0, 0, nil); e != api.ErrRange {
		t.Errorf("RootOf(0, 0) = %d", e)
	}
	checkRoots(t, w, 1, 2, o, list{y}, o, n(o, y), true)
	checkRoots(t, w, 2, 5, o, list{y, z}, o, n(n(o, y), z), true)
	checkRoots(t, w, 3, 7, o, list{a, b, c, dd}, n(c, a), n(n(c, n(a, b)), dd), true)
	checkRoots(t, w, 6, 8, o, list{a, b, c}, n(c, a), n(c, n(a, b)), true)
	checkRoots(t, w, 2, 5, o, list{y}, o, o, false)
	for _, s := range [][2]uint64{{0, 5}, {3, 3}, {6, 5}} {
		if _, _, e := mcheck.RootsOf(w, s[0], s[1], o, nil); e != api.ErrRange {
			t.Errorf("RootsOf(%d, %d) = %d", s[0], s[1], e)
		}
	}
	for at, k := range []struct{ got, want api.Errno }{
		{mcheck.Consistency(w, 3, 3, o, o, nil), api.OK},
		{mcheck.Consistency(w, 3, 3, o, x, nil), api.ErrProof},
		{mcheck.Consistency(w, 3, 3, o, o, list{y}), api.ErrProof},
		{mcheck.Consistency(w, 0, 5, none, x, nil), api.OK},
		{mcheck.Consistency(w, 0, 5, none, y, nil), api.OK},
	} {
		if k.got != k.want {
			t.Errorf("example %d of Consistency: %d, want %d", at, k.got, k.want)
		}
	}
}

// Of several errors the least: each way to be wrong, with each other one beside it.
func TestErrors_TheLeastNumber(t *testing.T) {
	const w = 4
	good := some(w, "good", 4)
	bad := api.Digest{7: 1}
	root, _ := climb(w, good[0], 1, 3, good[:2])
	old, now, _ := climbBoth(w, 3, 7, good[0], good)
	for mask := range 1 << 6 {
		on := func(bit int) bool { return mask>>bit&1 == 1 }
		width, i, m, n, proof, seam := w, uint64(1), uint64(3), uint64(7), good[:2], good
		leaf, oldRoot, r, s := good[0], old, root, now
		want := api.OK
		if on(0) {
			proof, seam, want = good[:3], good[:3], api.ErrProof
		}
		if on(1) {
			i, m, want = 3, 8, api.ErrRange
		}
		if on(2) {
			proof, seam, want = append(slices.Clone(proof), bad), append(slices.Clone(seam), bad), api.ErrForm
		}
		if on(3) {
			leaf, oldRoot, want = bad, bad, api.ErrForm
		}
		alone := want // of the calls that are handed no newer root
		if on(4) {
			r, s, want = bad, bad, api.ErrForm
		}
		if on(5) {
			width, alone, want = 0, api.ErrArg, api.ErrArg
		}
		if _, e := mcheck.RootOf(width, leaf, i, 3, proof); e != alone {
			t.Errorf("mask %06b: RootOf: %d, want %d", mask, e, alone)
		}
		if e := mcheck.Inclusion(width, leaf, i, 3, proof, r); e != want {
			t.Errorf("mask %06b: Inclusion: %d, want %d", mask, e, want)
		}
		if _, _, e := mcheck.RootsOf(width, m, n, oldRoot, seam); e != alone {
			t.Errorf("mask %06b: RootsOf: %d, want %d", mask, e, alone)
		}
		if e := mcheck.Consistency(width, m, n, oldRoot, s, seam); e != want {
			t.Errorf("mask %06b: Consistency: %d, want %d", mask, e, want)
		}
	}
}

// A list of any length is looked at, and no deeper gone into than the numbers say.
func TestP1_LongLists(t *testing.T) {
	const w = 32
	x := some(w, "x", 1)[0]
	long := make([]api.Digest, 1<<18)
	for _, n := range []uint64{1, 2, 3, top} {
		checkRoot(t, w, x, 0, n, long, x, false)
		if e := mcheck.Consistency(w, 0, n, cutSum(w, nil), x, long); e != api.ErrProof {
			t.Errorf("Consistency(0, %d) with a long list: %d", n, e)
		}
		if n > 1 {
			checkRoots(t, w, 1, n, x, long, x, x, false)
			checkRoots(t, w, n-1, n, x, long, x, x, false)
		}
	}
	short := slices.Clone(long)
	short[len(short)-1] = api.Digest{31: 1}
	if _, e := mcheck.RootOf(31, api.Digest{}, 0, 1, short); e != api.ErrForm {
		t.Errorf("RootOf with a last digest that is not of the width: %d", e)
	}
	if _, _, e := mcheck.RootsOf(31, 1, 2, api.Digest{}, short); e != api.ErrForm {
		t.Errorf("RootsOf with a last digest that is not of the width: %d", e)
	}
}

// What is handed in stays as it is, its spare room too.
func TestMemory_Arguments(t *testing.T) {
	const w = 9
	room := some(w, "room", 40)
	before := slices.Clone(room)
	x := some(w, "x", 1)[0]
	for n := uint64(1); n <= 20; n++ {
		for i := range n + 1 {
			for count := range 8 {
				mcheck.RootOf(w, x, i, n, room[3:3+count])
				mcheck.Inclusion(w, x, i, n, room[3:3+count], x)
				mcheck.RootsOf(w, i, n, x, room[3:3+count])
				mcheck.Consistency(w, i, n, x, x, room[3:3+count])
			}
		}
	}
	if !slices.Equal(room, before) {
		t.Error("a list that was handed in has changed")
	}
}

// P2: the calls hang on their arguments alone, however goroutines run.
func TestP2_ManyAtATime(t *testing.T) {
	const w, n = 7, 45
	tree := treeOf(t, w, n)
	root, _ := tree.Root(n)
	var group sync.WaitGroup
	for at := range 16 {
		group.Go(func() {
			for j := range n {
				i := uint64((j + 3*at) % n)
				leaf, _ := tree.Leaf(i)
				old, _ := tree.Root(i)
				p, _ := mproof.Inclusion(tree, i, n)
				q, _ := mproof.Consistency(tree, i, n)
				e, f := mcheck.Inclusion(w, leaf, i, n, p, root), mcheck.Consistency(w, i, n, old, root, q)
				g, h := mcheck.Inclusion(w, root, i, n, p, root), mcheck.Consistency(w, i, n, old, root, append(q, leaf))
				if e != api.OK || f != api.OK || g != api.ErrProof || h != api.ErrProof {
					t.Errorf("goroutine %d: the proofs of %d: %d, %d, %d, %d", at, i, e, f, g, h)
				}
			}
		})
	}
	group.Wait()
}

func FuzzAsTheWordsSay(f *testing.F) {
	f.Add(uint8(3), uint64(5), uint64(8), []byte("abcdefghijkl"))
	f.Fuzz(func(t *testing.T, width uint8, i, n uint64, p []byte) {
		w := 1 + int(width)%api.MaxWidth
		var list []api.Digest
		for len(p) >= w {
			var d api.Digest
			copy(d[:w], p)
			list, p = append(list, d), p[w:]
		}
		if len(list) == 0 || i >= n {
			return
		}
		root, ok := wordsRoot(w, list[0], i, n, list[1:])
		checkRoot(t, w, list[0], i, n, list[1:], root, ok)
		if i > 0 {
			a, b, ok := wordsRoots(w, i, n, true, list[0], list[1:])
			checkRoots(t, w, i, n, list[0], list[1:], a, b, ok)
		}
	})
}
